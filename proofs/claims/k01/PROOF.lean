import PyProof.Rows.All
import Wide.All
import OpenK.AllK
import Wide.FinOn
import HandS.ForMost
import HandS.Evl
import HandS.IsInst
import HandS.Sort
import HandS.Wide
import PyProof.LongRange
import PySem.Challenge.RW_rulesheet_k01_areas
set_option Elab.async false
set_option linter.all false
set_option maxRecDepth 100000
set_option maxHeartbeats 4000000
/-! own layer: values as plain data, locals as a row of data, lists that a def keeps to itself -/
namespace Pu
open PySem PySem.Spec L2 Evl

/-! ### heaps -/
/-- G is what is shared; what H has beside it is private; behind H2: the shared part -/
def grow (G H H2 : Hp) : Hp := fun a => match G a, H a with
  | none, some _ => none
  | _, _ => H2 a
def hide (p : Addr) (G : Hp) : Hp := fun a => if a = p then none else G a
theorem grow_priv {G H H2 : Hp} {a : Addr} {o : HO} (h1 : G a = none) (h2 : H a = some o) : grow G H H2 a = none := by
  unfold grow
  rw [h1, h2]
theorem grow_pub {G H H2 : Hp} {a : Addr} {o : HO} (h1 : G a = some o) : grow G H H2 a = H2 a := by
  unfold grow
  rw [h1]
theorem grow_new {G H H2 : Hp} {a : Addr} (h1 : H a = none) : grow G H H2 a = H2 a := by
  unfold grow
  rw [h1]
  cases G a <;> rfl
theorem ex_grow {G H H2 : Hp} (e : Ex G H) (e2 : Ex H H2) : Ex G (grow G H H2) := fun a o h => by
  rw [grow_pub h]
  exact e2 a o (e a o h)
theorem grow_ex {G H H2 : Hp} : Ex (grow G H H2) H2 := fun a o h => by
  unfold grow at h
  split at h
  · cases h
  · exact h
theorem grow_mono {G H H2 H3 : Hp} (e : Ex H2 H3) : Ex (grow G H H2) (grow G H H3) := fun a o h => by
  unfold grow at h ⊢
  split at h
  · cases h
  · exact e a o h
theorem grow_self {G H : Hp} (e : Ex G H) : grow G H H = G := by
  funext a
  unfold grow
  cases hg : G a with
  | none =>
    cases hh : H a with
    | none => rfl
    | some o => rfl
  | some o =>
    show H a = some o
    exact e a o hg
theorem grow_grow {G H H1 H2 : Hp} (e : Ex H H1) : grow (grow G H H1) H1 H2 = grow G H H2 := by
  funext a
  unfold grow
  cases hg : G a with
  | none =>
    cases hh : H a with
    | none =>
      cases h1 : H1 a with
      | none => rfl
      | some o => rfl
    | some o =>
      have := e a o hh
      rw [this]
  | some o =>
    cases h1 : H1 a with
    | none => rfl
    | some o => rfl
theorem hide_ex {p : Addr} {G : Hp} : Ex (hide p G) G := fun a o h => by
  unfold hide at h
  split at h
  · cases h
  · exact h
theorem hide_self {p : Addr} {G : Hp} : hide p G p = none := by
  unfold hide
  rw [if_pos rfl]
theorem hide_ne {p a : Addr} {G : Hp} (h : a ≠ p) : hide p G a = G a := by
  unfold hide
  rw [if_neg h]
theorem hide_mono {p : Addr} {G G' : Hp} (e : Ex G G') : Ex (hide p G) (hide p G') := fun a o h => by
  by_cases hp : a = p
  · rw [hp, hide_self] at h
    cases h
  · rw [hide_ne hp] at h ⊢
    exact e a o h
theorem ex_hide {p : Addr} {G G' : Hp} (e : Ex G G') (h : G p = none) : Ex G (hide p G') := fun a o q => by
  have hp : a ≠ p := fun z => by
    rw [z, h] at q
    cases q
  rw [hide_ne hp]
  exact e a o q

/-! ### data -/
mutual
def imm : PyData → Bool
  | .list _ => false
  | .dict _ => false
  | .tuple ds => immAll ds
  | _ => true
def immAll : List PyData → Bool
  | [] => true
  | d :: ds => imm d && immAll ds
end
section
variable {K : PySem.W.Frag} {H H' : Hp}
mutual
theorem dp_ex (e : Ex H H') : ∀ (d : PyData) (v : V), Dp K H v d → Dp K H' v d
  | .none, _, h => by cases h; exact .non
  | .bool b, _, h => by cases h; exact .bl b
  | .int i, _, h => by cases h; exact .int i
  | .str x, _, h => by cases h; exact .str x
  | .list ds, _, h => by
    cases h with
    | lst hs ha => exact .lst (ex_l e hs) (dpa_ex e ds _ ha)
  | .tuple ds, _, h => by
    cases h with
    | tup hs ha => exact .tup (ex_t e hs) (dpa_ex e ds _ ha)
  | .dict _, _, h => by cases h
theorem dpa_ex (e : Ex H H') : ∀ (ds : List PyData) (vs : List V), DpAll K H vs ds → DpAll K H' vs ds
  | [], _, h => by cases h; exact .nil
  | d :: ds, _, h => by
    cases h with
    | cons h1 h2 => exact .cons (dp_ex e d _ h1) (dpa_ex e ds _ h2)
end
theorem _root_.L2.Dp.up {v : V} {d : PyData} (h : Dp K H v d) (e : Ex H H') : Dp K H' v d := dp_ex e d v h
theorem _root_.L2.DpAll.up {vs : List V} {ds : List PyData} (h : DpAll K H vs ds) (e : Ex H H') : DpAll K H' vs ds := dpa_ex e ds vs h
/-- every tuple stays -/
def ExT (K : PySem.W.Frag) (H H' : Hp) : Prop := ∀ a xs, SqT K H a xs → SqT K H' a xs
mutual
theorem dp_imm (e : ExT K H H') : ∀ (d : PyData) (v : V), imm d = true → Dp K H v d → Dp K H' v d
  | .none, _, _, h => by cases h; exact .non
  | .bool b, _, _, h => by cases h; exact .bl b
  | .int i, _, _, h => by cases h; exact .int i
  | .str x, _, _, h => by cases h; exact .str x
  | .list ds, _, hi, h => by
    unfold imm at hi
    cases hi
  | .tuple ds, _, hi, h => by
    cases h with
    | tup hs ha =>
      refine .tup (e _ _ hs) (dpa_imm e ds _ ?_ ha)
      unfold imm at hi
      exact hi
  | .dict _, _, _, h => by cases h
theorem dpa_imm (e : ExT K H H') : ∀ (ds : List PyData) (vs : List V), immAll ds = true → DpAll K H vs ds → DpAll K H' vs ds
  | [], _, _, h => by cases h; exact .nil
  | d :: ds, _, hi, h => by
    unfold immAll at hi
    obtain ⟨i1, i2⟩ := Bool.and_eq_true_iff.mp hi
    cases h with
    | cons h1 h2 => exact .cons (dp_imm e d _ i1 h1) (dpa_imm e ds _ i2 h2)
end
/-- what is shared keeps its tuples, if what is private are lists -/
theorem exT_of {G : Hp} (h : ∀ a xs, Rd H a (.tup xs) → Rd G a (.tup xs)) : ExT K H G := fun a xs q => by
  rcases q with q | q
  · exact .inl (h a xs q)
  · exact .inr q
theorem dpa_len {vs : List V} {ds : List PyData} (h : DpAll K H vs ds) : vs.length = ds.length := by
  induction ds generalizing vs with
  | nil => cases h; rfl
  | cons d ds ih =>
    cases h with
    | cons h1 h2 => rw [List.length_cons, List.length_cons, ih h2]
theorem dpa_at : ∀ {ds : List PyData} {vs : List V} {i : Nat} {d : PyData}, DpAll K H vs ds → ds[i]? = some d → ∃ v, vs[i]? = some v ∧ Dp K H v d
  | [], _, _, _, _, hi => by simp at hi
  | d' :: ds, _, 0, d, h, hi => by
    cases h with
    | cons h1 h2 =>
      have e : d' = d := by simpa using hi
      subst e
      exact ⟨_, rfl, h1⟩
  | d' :: ds, _, i + 1, d, h, hi => by
    cases h with
    | cons h1 h2 =>
      obtain ⟨v, q, r⟩ := dpa_at (i := i) h2 (by simpa using hi)
      exact ⟨v, by simpa using q, r⟩
theorem dpa_at' {vs : List V} {ds : List PyData} {i : Nat} {v : V} (h : DpAll K H vs ds) (hi : vs[i]? = some v) : ∃ d, ds[i]? = some d ∧ Dp K H v d := by
  have hl : i < vs.length := (List.getElem?_eq_some_iff.mp hi).1
  rw [dpa_len h] at hl
  obtain ⟨v', e, q⟩ := dpa_at h (List.getElem?_eq_getElem hl)
  rw [hi] at e
  cases e
  exact ⟨_, List.getElem?_eq_getElem hl, q⟩
theorem dpa_ix {vs : List V} {ds : List PyData} {i : Int} {d : PyData} (h : DpAll K H vs ds) (hi : atI ds i = some d) : ∃ v, atI vs i = some v ∧ Dp K H v d := by
  unfold atI at hi ⊢
  rw [dpa_len h]
  cases hx : ixN ds.length i with
  | none =>
    rw [hx] at hi
    cases hi
  | some j =>
    rw [hx] at hi
    exact dpa_at h hi
theorem dpa_app {vs ws : List V} {ds es : List PyData} (h : DpAll K H vs ds) (h' : DpAll K H ws es) : DpAll K H (vs ++ ws) (ds ++ es) := by
  induction ds generalizing vs with
  | nil => cases h; exact h'
  | cons d ds ih =>
    cases h with
    | cons h1 h2 => exact .cons h1 (ih h2)
theorem dpa_snoc {vs : List V} {v : V} {ds : List PyData} {d : PyData} (h : DpAll K H vs ds) (h' : Dp K H v d) : DpAll K H (vs ++ [v]) (ds ++ [d]) := dpa_app h (.cons h' .nil)
theorem dpa_take {vs : List V} {ds : List PyData} (n : Nat) (h : DpAll K H vs ds) : DpAll K H (vs.take n) (ds.take n) := by
  induction ds generalizing vs n with
  | nil => cases h; rw [List.take_nil, List.take_nil]; exact .nil
  | cons d ds ih =>
    cases h with
    | cons h1 h2 =>
      cases n with
      | zero => exact .nil
      | succ n => exact .cons h1 (ih n h2)
theorem dpa_drop {vs : List V} {ds : List PyData} (n : Nat) (h : DpAll K H vs ds) : DpAll K H (vs.drop n) (ds.drop n) := by
  induction ds generalizing vs n with
  | nil => cases h; rw [List.drop_nil, List.drop_nil]; exact .nil
  | cons d ds ih =>
    cases h with
    | cons h1 h2 =>
      cases n with
      | zero => exact .cons h1 h2
      | succ n => exact ih n h2
theorem dpa_set {vs : List V} {v : V} {ds : List PyData} {d : PyData} (n : Nat) (h : DpAll K H vs ds) (h' : Dp K H v d) : DpAll K H (vs.set n v) (ds.set n d) := by
  induction ds generalizing vs n with
  | nil => cases h; exact .nil
  | cons d' ds ih =>
    cases h with
    | cons h1 h2 =>
      cases n with
      | zero => exact .cons h' h2
      | succ n => exact .cons h1 (ih n h2)
theorem dpa_dropLast {vs : List V} {ds : List PyData} (h : DpAll K H vs ds) : DpAll K H vs.dropLast ds.dropLast := by
  rw [List.dropLast_eq_take, List.dropLast_eq_take, dpa_len h]
  exact dpa_take _ h
theorem dpa_rev {vs : List V} {ds : List PyData} (h : DpAll K H vs ds) : DpAll K H vs.reverse ds.reverse := by
  induction ds generalizing vs with
  | nil => cases h; exact .nil
  | cons d ds ih =>
    cases h with
    | cons h1 h2 =>
      rw [List.reverse_cons, List.reverse_cons]
      exact dpa_snoc (ih h2) h1
end

/-! ### the locals of a def as data -/
inductive Ent where
  | no
  | dat (d : PyData)
  /-- a list that nobody else knows -/
  | own (ds : List PyData)
  | rng (lo hi : Int)
abbrev Es := List Ent
/-- what may be private: no tuple, nothing locked -/
def NT : HO → Prop
  | .tup _ => False
  | .frz _ _ => False
  | _ => True
structure SE (K : PySem.W.Frag) (G H : Hp) (σ : St) (es : Es) : Prop where
  ex : Ex G H
  len : es.length = σ.length
  dat : ∀ (i : Nat) (d : PyData), es[i]? = some (Ent.dat d) → ∃ v, σ[i]? = some (some v) ∧ Dp K G v d
  own : ∀ (i : Nat) (ds : List PyData), es[i]? = some (Ent.own ds) → ∃ p xs, σ[i]? = some (some (V.ref p)) ∧ G p = none ∧ H p = some (.lst xs) ∧ DpAll K G xs ds
  inj : ∀ (i j : Nat) (ds ds' : List PyData) (p : Addr), es[i]? = some (Ent.own ds) → es[j]? = some (Ent.own ds') → σ[i]? = some (some (V.ref p)) → σ[j]? = some (some (V.ref p)) → i = j
  rng : ∀ (i : Nat) (lo hi : Int), es[i]? = some (Ent.rng lo hi) → ∃ p, σ[i]? = some (some (V.ref p)) ∧ G p = some (.rng lo hi)
  prv : ∀ a o, G a = none → H a = some o → NT o
section
variable {K : PySem.W.Frag} {G G' H H1 H2 : Hp} {σ : St} {es : Es}
/-- another split of a grown heap -/
theorem SE.re (S : SE K G H σ es) (eg : Ex G G') (e : Ex G' H1) (eh : Ex H H1) (hp : ∀ p xs, G p = none → H p = some (.lst xs) → G' p = none) (pv : ∀ a o, G' a = none → H1 a = some o → NT o) : SE K G' H1 σ es where
  prv := pv
  ex := e
  len := S.len
  dat := fun i d h => by
    obtain ⟨v, a, b⟩ := S.dat i d h
    exact ⟨v, a, b.up eg⟩
  own := fun i ds h => by
    obtain ⟨p, xs, a, b, c, d⟩ := S.own i ds h
    exact ⟨p, xs, a, hp p xs b c, eh _ _ c, d.up eg⟩
  inj := S.inj
  rng := fun i lo hi h => by
    obtain ⟨p, a, b⟩ := S.rng i lo hi h
    exact ⟨p, a, eg _ _ b⟩
theorem prv_grow (pv : ∀ a o, G a = none → H a = some o → NT o) (e : Ex H H2) : ∀ a o, Pu.grow G H H2 a = none → H2 a = some o → NT o := fun a o h1 h2 => by
  cases hg : G a with
  | some u =>
    rw [grow_pub hg, h2] at h1
    cases h1
  | none =>
    cases hh : H a with
    | none =>
      rw [grow_new hh, h2] at h1
      cases h1
    | some u =>
      have := e a u hh
      rw [h2] at this
      cases this
      exact pv a _ hg hh
theorem SE.grow (S : SE K G H σ es) (e : Ex H H2) : SE K (Pu.grow G H H2) H2 σ es := S.re (ex_grow S.ex e) grow_ex e (fun _ _ h1 h2 => grow_priv h1 h2) (prv_grow S.prv e)
theorem set_get {α : Type} {l : List α} {i j : Nat} {x y : α} (h : (l.set i x)[j]? = some y) : (j = i ∧ y = x ∧ i < l.length) ∨ (j ≠ i ∧ l[j]? = some y) := by
  by_cases e : j = i
  · subst e
    rw [List.getElem?_set] at h
    rw [if_pos rfl] at h
    split at h
    · cases h
      rename_i hl
      exact .inl ⟨rfl, rfl, hl⟩
    · cases h
  · rw [List.getElem?_set_ne (Ne.symm e)] at h
    exact .inr ⟨e, h⟩
theorem get_set {α : Type} {l : List α} {i : Nat} {x : α} (h : i < l.length) : (l.set i x)[i]? = some x := by
  rw [List.getElem?_set_self h]
theorem get_set_ne {α : Type} {l : List α} {i j : Nat} {x : α} (h : j ≠ i) : (l.set i x)[j]? = l[j]? := List.getElem?_set_ne (Ne.symm h)
/-- a slot takes another value -/
theorem SE.put (S : SE K G H σ es) (i : Nat) (v : Option V) (en : Ent) (hd : ∀ d, en = .dat d → ∃ x, v = some x ∧ Dp K G x d)
    (ho : ∀ ds, en = .own ds → ∃ p xs, v = some (.ref p) ∧ G p = none ∧ H p = some (.lst xs) ∧ DpAll K G xs ds ∧ ∀ (j : Nat) (ds' : List PyData), j ≠ i → es[j]? = some (Ent.own ds') → σ[j]? ≠ some (some (V.ref p)))
    (hr : ∀ lo hi, en = .rng lo hi → ∃ p, v = some (.ref p) ∧ G p = some (.rng lo hi)) : SE K G H (σ.set i v) (es.set i en) where
  prv := S.prv
  ex := S.ex
  len := by rw [List.length_set, List.length_set]; exact S.len
  dat := fun j d h => by
    rcases set_get h with ⟨e, e2, e3⟩ | ⟨e, h⟩
    · obtain ⟨x, q, r⟩ := hd d e2.symm
      subst e
      refine ⟨x, ?_, r⟩
      rw [get_set (by rw [← S.len]; exact e3), q]
    · obtain ⟨x, q, r⟩ := S.dat j d h
      exact ⟨x, by rw [get_set_ne e]; exact q, r⟩
  own := fun j ds h => by
    rcases set_get h with ⟨e, e2, e3⟩ | ⟨e, h⟩
    · obtain ⟨p, xs, q, r, s, t, _⟩ := ho ds e2.symm
      subst e
      exact ⟨p, xs, by rw [get_set (by rw [← S.len]; exact e3), q], r, s, t⟩
    · obtain ⟨p, xs, q, r⟩ := S.own j ds h
      exact ⟨p, xs, by rw [get_set_ne e]; exact q, r⟩
  inj := fun a b ds ds' p ha hb va vb => by
    rcases set_get ha with ⟨e, e2, e3⟩ | ⟨e, ha'⟩
    · rcases set_get hb with ⟨f, f2, f3⟩ | ⟨f, hb'⟩
      · rw [e, f]
      · exfalso
        obtain ⟨p', xs, q, _, _, _, no⟩ := ho ds e2.symm
        subst e
        rw [get_set (by rw [← S.len]; exact e3), q] at va
        cases va
        rw [get_set_ne f] at vb
        exact no b ds' f hb' vb
    · rcases set_get hb with ⟨f, f2, f3⟩ | ⟨f, hb'⟩
      · exfalso
        obtain ⟨p', xs, q, _, _, _, no⟩ := ho ds' f2.symm
        subst f
        rw [get_set (by rw [← S.len]; exact f3), q] at vb
        cases vb
        rw [get_set_ne e] at va
        exact no a ds e ha' va
      · rw [get_set_ne e] at va
        rw [get_set_ne f] at vb
        exact S.inj a b ds ds' p ha' hb' va vb
  rng := fun j lo hi h => by
    rcases set_get h with ⟨e, e2, e3⟩ | ⟨e, h⟩
    · obtain ⟨p, q, r⟩ := hr lo hi e2.symm
      subst e
      exact ⟨p, by rw [get_set (by rw [← S.len]; exact e3), q], r⟩
    · obtain ⟨p, q, r⟩ := S.rng j lo hi h
      exact ⟨p, by rw [get_set_ne e]; exact q, r⟩
theorem SE.putDat (S : SE K G H σ es) (i : Nat) {v : V} {d : PyData} (h : Dp K G v d) : SE K G H (σ.set i (some v)) (es.set i (.dat d)) :=
  S.put i _ _ (fun d' e => by cases e; exact ⟨v, rfl, h⟩) (fun _ e => nomatch e) (fun _ _ e => nomatch e)
theorem SE.putNo (S : SE K G H σ es) (i : Nat) (v : Option V) : SE K G H (σ.set i v) (es.set i .no) := S.put i _ _ (fun d' e => nomatch e) (fun _ e => nomatch e) (fun _ _ e => nomatch e)
theorem SE.putRng (S : SE K G H σ es) (i : Nat) {p : Addr} {lo hi : Int} (h : G p = some (.rng lo hi)) : SE K G H (σ.set i (some (.ref p))) (es.set i (.rng lo hi)) :=
  S.put i _ _ (fun d' e => nomatch e) (fun _ e => nomatch e) (fun _ _ e => by cases e; exact ⟨p, rfl, h⟩)
/-- a new list of one's own: it was free ahead of H -/
theorem SE.putOwn (S : SE K G H σ es) (i : Nat) {p : Addr} {xs : List V} {ds : List PyData} (e : Ex H H2) (hn : H p = none) (hp : H2 p = some (.lst xs)) (hd : DpAll K (hide p (Pu.grow G H H2)) xs ds) :
    SE K (hide p (Pu.grow G H H2)) H2 (σ.set i (some (.ref p))) (es.set i (.own ds)) := by
  have gp : G p = none := by
    cases q : G p with
    | none => rfl
    | some o =>
      rw [S.ex p o q] at hn
      cases hn
  have S2 : SE K (hide p (Pu.grow G H H2)) H2 σ es := S.re (ex_hide (ex_grow S.ex e) gp) (hide_ex.trans grow_ex) e (fun q xs h1 h2 => by
    by_cases z : q = p
    · rw [z, hide_self]
    · rw [hide_ne z, grow_priv h1 h2]) (fun a o h1 h2 => by
    by_cases z : a = p
    · rw [z, hp] at h2
      cases h2
      trivial
    · rw [hide_ne z] at h1
      exact prv_grow S.prv e a o h1 h2)
  refine S2.put i _ _ (fun d' e => nomatch e) (fun ds' e' => ?_) (fun _ _ e => nomatch e)
  cases e'
  refine ⟨p, xs, rfl, hide_self, hp, hd, fun j ds' _ hj z => ?_⟩
  obtain ⟨p', xs', q, _, r, _⟩ := S.own j ds' hj
  rw [z] at q
  cases q
  rw [hn] at r
  cases r
/-- a list of one's own changes -/
theorem SE.write (S : SE K G H σ es) {i : Nat} {p : Addr} {xs : List V} {ds ds' : List PyData} (hi : es[i]? = some (Ent.own ds)) (hv : σ[i]? = some (some (V.ref p))) (hd : DpAll K G xs ds') :
    SE K G (upd H p (.lst xs)) σ (es.set i (.own ds')) := by
  obtain ⟨p0, xs0, q0, gp, hp0, _⟩ := S.own i ds hi
  rw [hv] at q0
  cases q0
  have hi' : i < es.length := (List.getElem?_eq_some_iff.mp hi).1
  refine ⟨fun a o h => ?_, by rw [List.length_set]; exact S.len, fun j d h => ?_, fun j ds2 h => ?_, fun a b d1 d2 q ha hb va vb => ?_, fun j lo hi2 h => ?_, fun a o h1 h2 => ?_⟩
  · rw [upd_ne (ne_of_none h gp)]
    exact S.ex a o h
  · rcases set_get h with ⟨e, e2, e3⟩ | ⟨e, h⟩
    · cases e2
    · exact S.dat j d h
  · rcases set_get h with ⟨e, e2, e3⟩ | ⟨e, h⟩
    · cases e2
      subst e
      exact ⟨p, xs, hv, gp, upd_same, hd⟩
    · obtain ⟨p', xs', q, r, t, u⟩ := S.own j ds2 h
      refine ⟨p', xs', q, r, ?_, u⟩
      have ne : p' ≠ p := fun z => by
        subst z
        exact e (S.inj j i _ _ _ h hi q hv)
      rw [upd_ne ne]
      exact t
  · have old : ∀ {c : Nat} {d : List PyData}, (es.set i (.own ds'))[c]? = some (Ent.own d) → ∃ d', es[c]? = some (Ent.own d') := fun {c d} h => by
      rcases set_get h with ⟨e, _, _⟩ | ⟨e, h⟩
      · exact ⟨ds, by rw [e]; exact hi⟩
      · exact ⟨d, h⟩
    obtain ⟨d1', ha⟩ := old ha
    obtain ⟨d2', hb⟩ := old hb
    exact S.inj a b _ _ _ ha hb va vb
  · rcases set_get h with ⟨e, e2, e3⟩ | ⟨e, h⟩
    · cases e2
    · exact S.rng j lo hi2 h
  · by_cases z : a = p
    · rw [z, upd_same] at h2
      cases h2
      trivial
    · rw [upd_ne z] at h2
      exact S.prv a o h1 h2
/-- the slots of a comprehension's own names -/
def wipeE (es : Es) : List Nat → Es
  | [] => es
  | v :: vs => (wipeE es vs).set v .no
theorem SE.wipe (S : SE K G H σ es) : ∀ vs : List Nat, SE K G H (L2.wipe σ vs) (wipeE es vs)
  | [] => S
  | v :: vs => (S.wipe vs).putNo v none
/-- a list of one's own is shared from here on -/
theorem SE.share (S : SE K G H σ es) {i : Nat} {ds : List PyData} (hi : es[i]? = some (Ent.own ds)) : ∃ G', Ex G G' ∧ SE K G' H σ (es.set i (.dat (.list ds))) := by
  obtain ⟨p, xs, hv, gp, hp, hd⟩ := S.own i ds hi
  have hi' : i < es.length := (List.getElem?_eq_some_iff.mp hi).1
  refine ⟨upd G p (.lst xs), Ex.new gp, fun a o h => ?_, by rw [List.length_set]; exact S.len, fun j d h => ?_, fun j ds2 h => ?_, fun a b d1 d2 q ha hb va vb => ?_, fun j lo hi2 h => ?_, fun a o h1 h2 => ?_⟩
  · by_cases z : a = p
    · subst z
      rw [upd_same] at h
      cases h
      exact hp
    · rw [upd_ne z] at h
      exact S.ex a o h
  · rcases set_get h with ⟨e, e2, e3⟩ | ⟨e, h⟩
    · cases e2
      subst e
      exact ⟨.ref p, hv, .lst (.inl (.inl upd_same)) (hd.up (Ex.new gp))⟩
    · obtain ⟨v, q, r⟩ := S.dat j d h
      exact ⟨v, q, r.up (Ex.new gp)⟩
  · rcases set_get h with ⟨e, e2, e3⟩ | ⟨e, h⟩
    · cases e2
    · obtain ⟨p', xs', q, r, t, u⟩ := S.own j ds2 h
      have ne : p' ≠ p := fun z => by
        subst z
        exact e (S.inj j i _ _ _ h hi q hv)
      exact ⟨p', xs', q, by rw [upd_ne ne]; exact r, t, u.up (Ex.new gp)⟩
  · have old : ∀ {c : Nat} {d : List PyData}, (es.set i (.dat (.list ds)))[c]? = some (Ent.own d) → es[c]? = some (Ent.own d) := fun {c d} h => by
      rcases set_get h with ⟨e, e2, _⟩ | ⟨e, h⟩
      · cases e2
      · exact h
    exact S.inj a b _ _ _ (old ha) (old hb) va vb
  · rcases set_get h with ⟨e, e2, e3⟩ | ⟨e, h⟩
    · cases e2
    · obtain ⟨p', q, r⟩ := S.rng j lo hi2 h
      exact ⟨p', q, (Ex.new gp) _ _ r⟩
  · by_cases z : a = p
    · rw [z, upd_same] at h1
      cases h1
    · rw [upd_ne z] at h1
      exact S.prv a o h1 h2
end
end Pu

namespace Pu
open PySem PySem.Spec L2 Evl

/-! ### what expressions give -/
section
variable (K : PySem.W.Frag)
/-- shared data | data that may hang on a private list | a new list -/
structure EvE (te : TE) (es : Es) (d : PyData) : Prop where
  run : ∀ {G H : Hp} {σ : L2.St}, SE K G H σ es → ∀ {H1 : Hp}, Ex H H1 → ∀ {Q : VK}, (∀ v H2, Ex H1 H2 → Dp K (grow G H H2) v d → Q v H2) → te σ H1 Q
structure EvX (te : TE) (es : Es) (d : PyData) : Prop where
  run : ∀ {G H : Hp} {σ : L2.St}, SE K G H σ es → ∀ {H1 : Hp}, Ex H H1 → ∀ {Q : VK}, (∀ v H2, Ex H1 H2 → Dp K H2 v d → Q v H2) → te σ H1 Q
structure EvF (te : TE) (es : Es) (ds : List PyData) : Prop where
  run : ∀ {G H : Hp} {σ : L2.St}, SE K G H σ es → ∀ {H1 : Hp}, Ex H H1 → ∀ {Q : VK}, (∀ p xs H2, H1 p = none → Ex H1 H2 → H2 p = some (.lst xs) → DpAll K (hide p (grow G H H2)) xs ds → Q (.ref p) H2) → te σ H1 Q
structure EvB (tt : TT) (es : Es) (b : Bool) : Prop where
  run : ∀ {G H : Hp} {σ : L2.St}, SE K G H σ es → ∀ {H1 : Hp}, Ex H H1 → ∀ {Q : Bool → Hp → Prop}, (∀ H2, Ex H1 H2 → Q b H2) → tt σ H1 Q
/-- arguments: weak, strong -/
structure EvA (ta : TA) (es : Es) (ds : List PyData) : Prop where
  run : ∀ {G H : Hp} {σ : L2.St}, SE K G H σ es → ∀ {H1 : Hp}, Ex H H1 → ∀ {Q : List V → Hp → Prop}, (∀ vs H2, Ex H1 H2 → DpAll K H2 vs ds → Q vs H2) → ta σ H1 Q
structure EvS (ta : TA) (es : Es) (ds : List PyData) : Prop where
  run : ∀ {G H : Hp} {σ : L2.St}, SE K G H σ es → ∀ {H1 : Hp}, Ex H H1 → ∀ {Q : List V → Hp → Prop}, (∀ vs H2, Ex H1 H2 → DpAll K (grow G H H2) vs ds → Q vs H2) → ta σ H1 Q
/-- a slice's bound -/
structure EvO (to : TO) (es : Es) (o : Option Int) : Prop where
  run : ∀ {G H : Hp} {σ : L2.St}, SE K G H σ es → ∀ {H1 : Hp}, Ex H H1 → ∀ {Q : Option Int → Hp → Prop}, (∀ H2, Ex H1 H2 → Q o H2) → to σ H1 Q
end
/-- a scalar as data -/
def scD : V → PyData
  | .bl b => .bool b
  | .int i => .int i
  | .str s => .str s
  | _ => .none
section
variable {K : PySem.W.Frag} {es : Es} {ta tb tc : TE} {t u : TT} {d e : PyData} {ds : List PyData}
theorem ev_weak (h : EvE K ta es d) : EvX K ta es d := .mk fun {_ _ _} S {_} e1 {_} q => h.1 S e1 fun v H2 e2 hd => q v H2 e2 (hd.up grow_ex)
theorem ev_fresh (h : EvF K ta es ds) : EvE K ta es (.list ds) := .mk fun {G H σ} S {H1} e1 {Q} q => h.1 S e1 fun p xs H2 n e2 hp hd => q _ _ e2 (.lst (.inl (.inl (by
  have hn : H p = none := fresh_back e1 n
  rw [grow_new hn]
  exact hp))) (hd.up hide_ex))
theorem ev_var {i : Nat} (h : es[i]? = some (Ent.dat d)) : EvE K (tVar i) es d := .mk fun {G H σ} S {H1} e1 {Q} q => by
  obtain ⟨v, hv, hd⟩ := S.dat i d h
  exact ⟨v, hv, q v H1 (Ex.refl _) (hd.up (ex_grow S.ex e1))⟩
theorem ev_varO {i : Nat} (h : es[i]? = some (Ent.own ds)) : EvX K (tVar i) es (.list ds) := .mk fun {G H σ} S {H1} e1 {Q} q => by
  obtain ⟨p, xs, hv, gp, hp, hd⟩ := S.own i ds h
  exact ⟨_, hv, q _ H1 (Ex.refl _) (.lst (.inl (.inl (e1 _ _ hp))) (hd.up (S.ex.trans e1)))⟩
theorem ev_int {i : Int} : EvE K (tC (.int i)) es (.int i) := .mk fun {_ _ _} S {_} _ {_} q => q _ _ (Ex.refl _) (.int i)
theorem ev_bl {b : Bool} : EvE K (tC (.bl b)) es (.bool b) := .mk fun {_ _ _} S {_} _ {_} q => q _ _ (Ex.refl _) (.bl b)
theorem ev_str {x : Str} : EvE K (tC (.str x)) es (.str x) := .mk fun {_ _ _} S {_} _ {_} q => q _ _ (Ex.refl _) (.str x)
theorem ev_non : EvE K (tC .non) es .none := .mk fun {_ _ _} S {_} _ {_} q => q _ _ (Ex.refl _) .non
/-- a value of the module that is known -/
theorem ev_glob {v : V} (h : Dp K (fun _ => none) v d) : EvE K (tC v) es d := .mk fun {_ _ _} S {_} _ {_} q => q _ _ (Ex.refl _) (h.up fun _ _ z => nomatch z)
theorem ev_is {d' : PyData} (h : EvE K ta es d) (e : d = d') : EvE K ta es d' := e ▸ h
theorem ev_isX {d' : PyData} (h : EvX K ta es d) (e : d = d') : EvX K ta es d' := e ▸ h
theorem ev_isF {ds' : List PyData} (h : EvF K ta es ds) (e : ds = ds') : EvF K ta es ds' := e ▸ h
theorem eb_is {b c : Bool} (h : EvB K t es b) (e : b = c) : EvB K t es c := e ▸ h
theorem dp_int {H : Hp} {v : V} {i : Int} (h : Dp K H v (.int i)) : v = .int i := by cases h; rfl
theorem dp_bl {H : Hp} {v : V} {b : Bool} (h : Dp K H v (.bool b)) : v = .bl b := by cases h; rfl
theorem dp_str {H : Hp} {v : V} {x : Str} (h : Dp K H v (.str x)) : v = .str x := by cases h; rfl
theorem dp_non {H : Hp} {v : V} (h : Dp K H v .none) : v = .non := by cases h; rfl
theorem dp_lst {H : Hp} {v : V} (h : Dp K H v (.list ds)) : ∃ p xs, v = .ref p ∧ SqL K H p xs ∧ DpAll K H xs ds := by
  cases h with
  | lst a b => exact ⟨_, _, rfl, a, b⟩
theorem dp_tup {H : Hp} {v : V} (h : Dp K H v (.tuple ds)) : ∃ p xs, v = .ref p ∧ SqT K H p xs ∧ DpAll K H xs ds := by
  cases h with
  | tup a b => exact ⟨_, _, rfl, a, b⟩
theorem dpa_nil {H : Hp} {vs : List V} (h : DpAll K H vs []) : vs = [] := by cases h; rfl
theorem dpa_cons {H : Hp} {vs : List V} (h : DpAll K H vs (d :: ds)) : ∃ v r, vs = v :: r ∧ Dp K H v d ∧ DpAll K H r ds := by
  cases h with
  | cons a b => exact ⟨_, _, rfl, a, b⟩
theorem dpa_one {H : Hp} {vs : List V} (h : DpAll K H vs [d]) : ∃ v, vs = [v] ∧ Dp K H v d := by
  obtain ⟨v, r, rfl, a, b⟩ := dpa_cons h
  rw [dpa_nil b]
  exact ⟨v, rfl, a⟩
theorem dpa_two {H : Hp} {vs : List V} (h : DpAll K H vs [d, e]) : ∃ v w, vs = [v, w] ∧ Dp K H v d ∧ Dp K H w e := by
  obtain ⟨v, r, rfl, a, b⟩ := dpa_cons h
  obtain ⟨w, rfl, c⟩ := dpa_one b
  exact ⟨v, w, rfl, a, c⟩
/-! operators on values -/
theorem ev_op2 {r : R2} {z : PyData} (ha : EvX K ta es d) (hb : EvX K tb es e) (hr : ∀ x y H, Dp K H x d → Dp K H y e → ∀ Q : VK, (∀ v, (∀ G, Dp K G v z) → Q v H) → r x y H Q) : EvE K (tOp r ta tb) es z := .mk fun {G H σ} S {H1} e1 {Q} q =>
  ha.1 S e1 fun x H2 e2 hx => hb.1 S (e1.trans e2) fun y H3 e3 hy => hr x y H3 (hx.up e3) hy Q fun v hv => q v H3 (e2.trans e3) (hv _)
theorem ev_I0 {g : Int → Int → V} {i j k : Int} (ha : EvX K ta es (.int i)) (hb : EvX K tb es (.int j)) (hg : g i j = .int k) : EvE K (tOp (rI0 g) ta tb) es (.int k) :=
  ev_op2 ha hb fun x y H hx hy Q q => ⟨i, j, dp_int hx, dp_int hy, by rw [hg]; exact q _ fun _ => .int k⟩
theorem ev_I0b {g : Int → Int → V} {i j : Int} {b : Bool} (ha : EvX K ta es (.int i)) (hb : EvX K tb es (.int j)) (hg : g i j = .bl b) : EvE K (tOp (rI0 g) ta tb) es (.bool b) :=
  ev_op2 ha hb fun x y H hx hy Q q => ⟨i, j, dp_int hx, dp_int hy, by rw [hg]; exact q _ fun _ => .bl b⟩
theorem ev_I {C : Int → Int → Prop} {g : Int → Int → V} {i j k : Int} (ha : EvX K ta es (.int i)) (hb : EvX K tb es (.int j)) (hg : g i j = .int k) (hc : C i j) : EvE K (tOp (rI C g) ta tb) es (.int k) :=
  ev_op2 ha hb fun x y H hx hy Q q => ⟨i, j, dp_int hx, dp_int hy, hc, by rw [hg]; exact q _ fun _ => .int k⟩
theorem ev_neg {i : Int} {g : Int → V} {k : Int} (ha : EvX K ta es (.int i)) (hg : g i = .int k) : EvE K (tUn (rU g) ta) es (.int k) := .mk fun {G H σ} S {H1} e1 {Q} q =>
  ha.1 S e1 fun x H2 e2 hx => ⟨i, dp_int hx, by rw [hg]; exact q _ H2 e2 (.int k)⟩
theorem ev_eqI {i j : Int} (ha : EvX K ta es (.int i)) (hb : EvX K tb es (.int j)) : EvE K (tOp rEq ta tb) es (.bool (decide (i = j))) :=
  ev_op2 ha hb fun x y H hx hy Q q => by
    rw [dp_int hx, dp_int hy]
    refine ⟨rfl, ?_⟩
    have e : decide (V.int i = V.int j) = decide (i = j) := by
      by_cases h : i = j
      · rw [h, decide_eq_true rfl, decide_eq_true rfl]
      · rw [decide_eq_false h, decide_eq_false fun z => h (V.int.inj z)]
    rw [e]
    exact q _ fun _ => .bl _
theorem ev_eqS {i j : Str} (ha : EvX K ta es (.str i)) (hb : EvX K tb es (.str j)) : EvE K (tOp rEq ta tb) es (.bool (decide (i = j))) :=
  ev_op2 ha hb fun x y H hx hy Q q => by
    rw [dp_str hx, dp_str hy]
    refine ⟨rfl, ?_⟩
    have e : decide (V.str i = V.str j) = decide (i = j) := by
      by_cases h : i = j
      · rw [h, decide_eq_true rfl, decide_eq_true rfl]
      · rw [decide_eq_false h, decide_eq_false fun z => h (V.str.inj z)]
    rw [e]
    exact q _ fun _ => .bl _
theorem ev_eqB {i j : Bool} (ha : EvX K ta es (.bool i)) (hb : EvX K tb es (.bool j)) : EvE K (tOp rEq ta tb) es (.bool (decide (i = j))) :=
  ev_op2 ha hb fun x y H hx hy Q q => by
    rw [dp_bl hx, dp_bl hy]
    refine ⟨rfl, ?_⟩
    have e : decide (V.bl i = V.bl j) = decide (i = j) := by
      by_cases h : i = j
      · rw [h, decide_eq_true rfl, decide_eq_true rfl]
      · rw [decide_eq_false h, decide_eq_false fun z => h (V.bl.inj z)]
    rw [e]
    exact q _ fun _ => .bl _
theorem ev_neI {i j : Int} (ha : EvX K ta es (.int i)) (hb : EvX K tb es (.int j)) : EvE K (tOp rNe ta tb) es (.bool (!decide (i = j))) :=
  ev_op2 ha hb fun x y H hx hy Q q => by
    rw [dp_int hx, dp_int hy]
    refine ⟨rfl, ?_⟩
    have e : decide (V.int i = V.int j) = decide (i = j) := by
      by_cases h : i = j
      · rw [h, decide_eq_true rfl, decide_eq_true rfl]
      · rw [decide_eq_false h, decide_eq_false fun z => h (V.int.inj z)]
    rw [e]
    exact q _ fun _ => .bl _
theorem ev_neS {i j : Str} (ha : EvX K ta es (.str i)) (hb : EvX K tb es (.str j)) : EvE K (tOp rNe ta tb) es (.bool (!decide (i = j))) :=
  ev_op2 ha hb fun x y H hx hy Q q => by
    rw [dp_str hx, dp_str hy]
    refine ⟨rfl, ?_⟩
    have e : decide (V.str i = V.str j) = decide (i = j) := by
      by_cases h : i = j
      · rw [h, decide_eq_true rfl, decide_eq_true rfl]
      · rw [decide_eq_false h, decide_eq_false fun z => h (V.str.inj z)]
    rw [e]
    exact q _ fun _ => .bl _
theorem ev_eqD (ha : EvX K ta es d) (hb : EvX K tb es e) (s1 : SeqAt.shaped d = true) (s2 : SeqAt.shaped e = true) : EvE K (tOp (rEqD K) ta tb) es (.bool (PyData.eqv d e)) :=
  ev_op2 ha hb fun x y H hx hy Q q => ⟨d, e, hx, hy, s1, s2, q _ fun _ => .bl _⟩
theorem ev_neD (ha : EvX K ta es d) (hb : EvX K tb es e) (s1 : SeqAt.shaped d = true) (s2 : SeqAt.shaped e = true) : EvE K (tOp (rNeD K) ta tb) es (.bool (!PyData.eqv d e)) :=
  ev_op2 ha hb fun x y H hx hy Q q => ⟨d, e, hx, hy, s1, s2, q _ fun _ => .bl _⟩
/-! items -/
theorem ev_ixT {i : Int} (ha : EvE K ta es (.tuple ds)) (hb : EvX K tb es (.int i)) (hi : atI ds i = some d) : EvE K (tOp (rIxT K) ta tb) es d := .mk fun {G H σ} S {H1} e1 {Q} q =>
  ha.1 S e1 fun x H2 e2 hx => hb.1 S (e1.trans e2) fun y H3 e3 hy => by
    obtain ⟨p, xs, rfl, hs, hd⟩ := dp_tup (hx.up (grow_mono e3))
    obtain ⟨v, hv, hdv⟩ := dpa_ix hd hi
    exact ⟨p, xs, i, v, rfl, dp_int hy, ex_t grow_ex hs, hv, q v H3 (e2.trans e3) hdv⟩
theorem ev_ixL {i : Int} (ha : EvE K ta es (.list ds)) (hb : EvX K tb es (.int i)) (hi : atI ds i = some d) : EvE K (tOp (rIxL K) ta tb) es d := .mk fun {G H σ} S {H1} e1 {Q} q =>
  ha.1 S e1 fun x H2 e2 hx => hb.1 S (e1.trans e2) fun y H3 e3 hy => by
    obtain ⟨p, xs, rfl, hs, hd⟩ := dp_lst (hx.up (grow_mono e3))
    obtain ⟨v, hv, hdv⟩ := dpa_ix hd hi
    exact ⟨p, xs, i, v, rfl, dp_int hy, ex_l grow_ex hs, hv, q v H3 (e2.trans e3) hdv⟩
theorem ev_ixO {k : Nat} {i : Int} (ha : es[k]? = some (Ent.own ds)) (hb : EvX K tb es (.int i)) (hi : atI ds i = some d) : EvE K (tOp (rIxL K) (tVar k) tb) es d := .mk fun {G H σ} S {H1} e1 {Q} q => by
  obtain ⟨p, xs, hv, gp, hp, hd⟩ := S.own k ds ha
  refine ⟨_, hv, hb.1 S e1 fun y H3 e3 hy => ?_⟩
  obtain ⟨v, hv, hdv⟩ := dpa_ix hd hi
  exact ⟨p, xs, i, v, rfl, dp_int hy, .inl (.inl (e3 _ _ (e1 _ _ hp))), hv, q v H3 e3 (hdv.up (ex_grow S.ex (e1.trans e3)))⟩
/-! arguments, displays -/
theorem ea_nil : EvA K tNil es [] := .mk fun {_ _ _} S {_} _ {_} q => q _ _ (Ex.refl _) .nil
theorem ea_cons {tr : TA} (h : EvX K ta es d) (hr : EvA K tr es ds) : EvA K (tCons ta tr) es (d :: ds) := .mk fun {_ _ _} S {_} e1 {_} q =>
  h.1 S e1 fun x H2 e2 hx => hr.1 S (e1.trans e2) fun xs H3 e3 hxs => q _ _ (e2.trans e3) (.cons (hx.up e3) hxs)
theorem es_nil : EvS K tNil es [] := .mk fun {_ _ _} S {_} _ {_} q => q _ _ (Ex.refl _) .nil
theorem es_cons {tr : TA} (h : EvE K ta es d) (hr : EvS K tr es ds) : EvS K (tCons ta tr) es (d :: ds) := .mk fun {_ _ _} S {_} e1 {_} q =>
  h.1 S e1 fun x H2 e2 hx => hr.1 S (e1.trans e2) fun xs H3 e3 hxs => q _ _ (e2.trans e3) (.cons (hx.up (grow_mono e3)) hxs)
theorem ev_tup {t : TA} (h : EvS K t es ds) (hl : ds.length ≤ 100000) : EvE K (tTup t) es (.tuple ds) := .mk fun {G H σ} S {H1} e1 {Q} q =>
  h.1 S e1 fun xs H2 e2 hx => ⟨sz_of (by rw [dpa_len hx]; exact hl), fun p hp => q _ _ (e2.trans (Ex.new hp)) (.tup (.inl (.inl (by
    rw [grow_new (fresh_back (e1.trans e2) hp)]
    exact upd_same))) (hx.up (grow_mono (Ex.new hp))))⟩
theorem grow_none {G H H2 : Hp} {p : Addr} (h : H2 p = none) : grow G H H2 p = none := by
  cases q : grow G H H2 p with
  | none => rfl
  | some o =>
    rw [grow_ex _ _ q] at h
    cases h
theorem ef_lst {t : TA} (h : EvS K t es ds) (hl : ds.length ≤ 100000) : EvF K (tLst t) es ds := .mk fun {G H σ} S {H1} e1 {Q} q =>
  h.1 S e1 fun xs H2 e2 hx => ⟨sz_of (by rw [dpa_len hx]; exact hl), fun p hp => q p xs _ (fresh_back e2 hp) (e2.trans (Ex.new hp)) upd_same
    (hx.up (ex_hide (grow_mono (Ex.new hp)) (grow_none hp)))⟩
/-! slices -/
theorem eo_none : EvO K tNoPart es none := .mk fun {_ _ _} S {_} _ {_} q => q _ (Ex.refl _)
theorem eo_some {i : Int} (h : EvX K ta es (.int i)) : EvO K (tPart ta) es (some i) := .mk fun {_ _ _} S {_} e1 {_} q => h.1 S e1 fun x H2 e2 hx => ⟨i, dp_int hx, q H2 e2⟩
def cutD (ds : List PyData) (lo hi : Option Int) : List PyData := (ds.drop (HT.sIx ds.length 0 lo)).take (HT.sIx ds.length ds.length hi - HT.sIx ds.length 0 lo)
theorem dpa_cut {H : Hp} {xs : List V} {lo hi : Option Int} (h : DpAll K H xs ds) : DpAll K H (cutV xs lo hi) (cutD ds lo hi) := by
  unfold cutV cutD
  rw [dpa_len h]
  exact dpa_take _ (dpa_drop _ h)
theorem ev_slT {tl th : TO} {lo hi : Option Int} (ha : EvE K ta es (.tuple ds)) (hl : EvO K tl es lo) (hh : EvO K th es hi) (hn : ¬ (HT.sIx ds.length 0 lo = 0 ∧ HT.sIx ds.length ds.length hi = ds.length)) :
    EvE K (tSl (rSlT K) ta tl th) es (.tuple (cutD ds lo hi)) := .mk fun {G H σ} S {H1} e1 {Q} q =>
  ha.1 S e1 fun x H2 e2 hx => hl.1 S (e1.trans e2) fun H3 e3 => hh.1 S ((e1.trans e2).trans e3) fun H4 e4 => by
    obtain ⟨p, xs, rfl, hs, hd⟩ := dp_tup (hx.up (grow_mono (e3.trans e4)))
    refine ⟨p, xs, rfl, ex_t grow_ex hs, by rw [dpa_len hd]; exact hn, fun r hr => q _ _ (((e2.trans e3).trans e4).trans (Ex.new hr)) (.tup (.inl (.inl ?_)) ((dpa_cut hd).up (grow_mono (Ex.new hr))))⟩
    rw [grow_new (fresh_back (((e1.trans e2).trans e3).trans e4) hr)]
    exact upd_same
theorem ef_slL {tl th : TO} {lo hi : Option Int} (ha : EvE K ta es (.list ds)) (hl : EvO K tl es lo) (hh : EvO K th es hi) : EvF K (tSl (rSlL K) ta tl th) es (cutD ds lo hi) := .mk fun {G H σ} S {H1} e1 {Q} q =>
  ha.1 S e1 fun x H2 e2 hx => hl.1 S (e1.trans e2) fun H3 e3 => hh.1 S ((e1.trans e2).trans e3) fun H4 e4 => by
    obtain ⟨p, xs, rfl, hs, hd⟩ := dp_lst (hx.up (grow_mono (e3.trans e4)))
    exact ⟨p, xs, rfl, ex_l grow_ex hs, fun r hr => q r _ _ (fresh_back ((e2.trans e3).trans e4) hr) (((e2.trans e3).trans e4).trans (Ex.new hr)) upd_same
      ((dpa_cut hd).up (ex_hide (grow_mono (Ex.new hr)) (grow_none hr)))⟩
theorem ef_slO {k : Nat} {tl th : TO} {lo hi : Option Int} (ha : es[k]? = some (Ent.own ds)) (hl : EvO K tl es lo) (hh : EvO K th es hi) : EvF K (tSl (rSlL K) (tVar k) tl th) es (cutD ds lo hi) := .mk fun {G H σ} S {H1} e1 {Q} q => by
  obtain ⟨p, xs, hv, gp, hp, hd⟩ := S.own k ds ha
  refine ⟨_, hv, hl.1 S e1 fun H3 e3 => hh.1 S (e1.trans e3) fun H4 e4 => ?_⟩
  exact ⟨p, xs, rfl, .inl (.inl (e4 _ _ (e3 _ _ (e1 _ _ hp)))), fun r hr => q r _ _ (fresh_back (e3.trans e4) hr) ((e3.trans e4).trans (Ex.new hr)) upd_same
    ((dpa_cut hd).up (ex_hide (ex_grow S.ex (((e1.trans e3).trans e4).trans (Ex.new hr))) (fresh_back (((S.ex.trans e1).trans e3).trans e4) hr)))⟩
/-! calls of built-ins -/
theorem ev_cb1 {r : List V → Hp → VK → Prop} {z : PyData} (ha : EvX K ta es d) (hr : ∀ x H, Dp K H x d → ∀ Q : VK, (∀ v, (∀ G, Dp K G v z) → Q v H) → r [x] H Q) : EvE K (tCB r (tCons ta tNil)) es z := .mk fun {G H σ} S {H1} e1 {Q} q =>
  ha.1 S e1 fun x H2 e2 hx => hr x H2 hx Q fun v hv => q v H2 e2 (hv _)
theorem ev_cb2 {r : List V → Hp → VK → Prop} {z : PyData} (ha : EvX K ta es d) (hb : EvX K tb es e) (hr : ∀ x y H, Dp K H x d → Dp K H y e → ∀ Q : VK, (∀ v, (∀ G, Dp K G v z) → Q v H) → r [x, y] H Q) : EvE K (tCB r (tCons ta (tCons tb tNil))) es z := .mk fun {G H σ} S {H1} e1 {Q} q =>
  ha.1 S e1 fun x H2 e2 hx => hb.1 S (e1.trans e2) fun y H3 e3 hy => hr x y H3 (hx.up e3) hy Q fun v hv => q v H3 (e2.trans e3) (hv _)
theorem ev_lenL (ha : EvX K ta es (.list ds)) : EvE K (tCB (rLenS K) (tCons ta tNil)) es (.int (ds.length : Int)) := ev_cb1 ha fun x H hx Q q => by
  obtain ⟨p, xs, rfl, hs, hd⟩ := dp_lst hx
  refine ⟨p, xs, rfl, .inl hs, ?_⟩
  rw [dpa_len hd]
  exact q _ fun _ => .int _
theorem ev_lenT (ha : EvX K ta es (.tuple ds)) : EvE K (tCB (rLenS K) (tCons ta tNil)) es (.int (ds.length : Int)) := ev_cb1 ha fun x H hx Q q => by
  obtain ⟨p, xs, rfl, hs, hd⟩ := dp_tup hx
  refine ⟨p, xs, rfl, .inr hs, ?_⟩
  rw [dpa_len hd]
  exact q _ fun _ => .int _
def rMin2 : List V → Hp → VK → Prop := fun xs H Q => ∃ i j, xs = [.int i, .int j] ∧ Q (.int (if j < i then j else i)) H
theorem ev_min2 {i j : Int} (ha : EvX K ta es (.int i)) (hb : EvX K tb es (.int j)) : EvE K (tCB rMin2 (tCons ta (tCons tb tNil))) es (.int (min i j)) := ev_cb2 ha hb fun x y H hx hy Q q => by
  refine ⟨i, j, by rw [dp_int hx, dp_int hy], ?_⟩
  rw [show (if j < i then j else i) = min i j by split <;> omega]
  exact q _ fun _ => .int _
theorem ev_max2 {i j : Int} (ha : EvX K ta es (.int i)) (hb : EvX K tb es (.int j)) : EvE K (tCB rMax2 (tCons ta (tCons tb tNil))) es (.int (max i j)) := ev_cb2 ha hb fun x y H hx hy Q q => by
  refine ⟨i, j, by rw [dp_int hx, dp_int hy], ?_⟩
  rw [show (if j > i then j else i) = max i j by split <;> omega]
  exact q _ fun _ => .int _
theorem dpa_ints {H : Hp} : ∀ {ns : List Int} {xs : List V}, DpAll K H xs (ns.map PyData.int) → xs = ns.map V.int
  | [], _, h => dpa_nil h
  | n :: ns, _, h => by
    obtain ⟨v, r, rfl, a, b⟩ := dpa_cons h
    rw [dp_int a, dpa_ints b]
    rfl
theorem ev_minL {ns : List Int} {m : Int} (ha : EvX K ta es (.list (ns.map PyData.int))) (hm : m ∈ ns) (hle : ∀ y ∈ ns, m ≤ y) : EvE K (tCB (rMin K) (tCons ta tNil)) es (.int m) := ev_cb1 ha fun x H hx Q q => by
  obtain ⟨p, xs, rfl, hs, hd⟩ := dp_lst hx
  rw [dpa_ints (xs := xs) hd] at hs
  refine ⟨p, ns, rfl, hs, List.length_pos_of_mem hm, fun k hk hk' => ?_⟩
  have e : k = m := by
    have h1 := hk' m hm
    have h2 := hle k hk
    omega
  rw [e]
  exact q _ fun _ => .int _
theorem ev_maxL {ns : List Int} {m : Int} (ha : EvX K ta es (.list (ns.map PyData.int))) (hm : m ∈ ns) (hle : ∀ y ∈ ns, y ≤ m) : EvE K (tCB (rMax K) (tCons ta tNil)) es (.int m) := ev_cb1 ha fun x H hx Q q => by
  obtain ⟨p, xs, rfl, hs, hd⟩ := dp_lst hx
  rw [dpa_ints (xs := xs) hd] at hs
  refine ⟨p, ns, rfl, hs, List.length_pos_of_mem hm, fun k hk hk' => ?_⟩
  have e : k = m := by
    have h1 := hk' m hm
    have h2 := hle k hk
    omega
  rw [e]
  exact q _ fun _ => .int _
def tyName : PyData → String
  | .none => "NoneType"
  | .bool _ => "bool"
  | .int _ => "int"
  | .str _ => "str"
  | .list _ => "list"
  | .tuple _ => "tuple"
  | .dict _ => "dict"
theorem tyX_of {H : Hp} {v : V} (h : Dp K H v d) : TyX K H v (.type (tyName d)) := by
  cases h with
  | non => exact .base .non
  | bl b => exact .base (.bl b)
  | int i => exact .base (.int i)
  | str x => exact .base (.str x)
  | lst hs _ =>
    rcases hs with (hs | ⟨o, hs⟩) | ⟨o, its, n, h1, h2, _⟩
    · exact .base (.lst hs)
    · exact .base (.frz hs)
    · exact .kList h1 h2
  | tup hs _ =>
    rcases hs with (hs | ⟨o, hs⟩) | ⟨o, its, n, h1, h2, _⟩
    · exact .base (.tup hs)
    · exact .fTuple hs
    · exact .kTuple h1 h2
theorem ev_isi {n : String} {b : Bool} (ha : EvX K ta es d) (hb : kitB (tyName d) n = some b) : EvE K (tCB (rIsi K) (tCons ta (tCons (tC (.ty n)) tNil))) es (.bool b) := .mk fun {G H σ} S {H1} e1 {Q} q =>
  ha.1 S e1 fun x H2 e2 hx => ⟨x, .ty n, _, _, b, rfl, .ty n, tyX_of hx, kit_ty hb, q _ H2 e2 (.bl b)⟩
def rInt1 : List V → Hp → VK → Prop := fun xs H Q => (∃ i, xs = [.int i] ∧ Q (.int i) H) ∨ ∃ k, xs = [.bl k] ∧ Q (.int (if k then 1 else 0)) H
theorem ev_intB {b : Bool} (ha : EvX K ta es (.bool b)) : EvE K (tCB rInt1 (tCons ta tNil)) es (.int (if b then 1 else 0)) := ev_cb1 ha fun x H hx Q q => .inr ⟨b, by rw [dp_bl hx], q _ fun _ => .int _⟩
theorem ef_listL (ha : EvE K ta es (.list ds)) : EvF K (tCB (rListS K) (tCons ta tNil)) es ds := .mk fun {G H σ} S {H1} e1 {Q} q =>
  ha.1 S e1 fun x H2 e2 hx => by
    obtain ⟨p, xs, rfl, hs, hd⟩ := dp_lst hx
    exact ⟨p, xs, rfl, .inl (ex_l grow_ex hs), fun r hr => q r _ _ (fresh_back e2 hr) (e2.trans (Ex.new hr)) upd_same (hd.up (ex_hide (grow_mono (Ex.new hr)) (grow_none hr)))⟩
theorem ef_listT (ha : EvE K ta es (.tuple ds)) : EvF K (tCB (rListS K) (tCons ta tNil)) es ds := .mk fun {G H σ} S {H1} e1 {Q} q =>
  ha.1 S e1 fun x H2 e2 hx => by
    obtain ⟨p, xs, rfl, hs, hd⟩ := dp_tup hx
    exact ⟨p, xs, rfl, .inr (ex_t grow_ex hs), fun r hr => q r _ _ (fresh_back e2 hr) (e2.trans (Ex.new hr)) upd_same (hd.up (ex_hide (grow_mono (Ex.new hr)) (grow_none hr)))⟩
def rTupS (K : PySem.W.Frag) : List V → Hp → VK → Prop := fun xs H Q => ∃ p ys, xs = [.ref p] ∧ ((SqL K H p ys ∧ ∀ l, H l = none → Q (.ref l) (upd H l (.tup ys))) ∨ (SqT K H p ys ∧ Q (.ref p) H))
theorem ev_tupL (ha : EvE K ta es (.list ds)) : EvE K (tCB (rTupS K) (tCons ta tNil)) es (.tuple ds) := .mk fun {G H σ} S {H1} e1 {Q} q =>
  ha.1 S e1 fun x H2 e2 hx => by
    obtain ⟨p, xs, rfl, hs, hd⟩ := dp_lst hx
    refine ⟨p, xs, rfl, .inl ⟨ex_l grow_ex hs, fun r hr => q _ _ (e2.trans (Ex.new hr)) (.tup (.inl (.inl ?_)) (hd.up (grow_mono (Ex.new hr))))⟩⟩
    rw [grow_new (fresh_back (e1.trans e2) hr)]
    exact upd_same
theorem ev_tupO {k : Nat} (ha : es[k]? = some (Ent.own ds)) : EvE K (tCB (rTupS K) (tCons (tVar k) tNil)) es (.tuple ds) := .mk fun {G H σ} S {H1} e1 {Q} q => by
  obtain ⟨p, xs, hv, gp, hp, hd⟩ := S.own k ds ha
  refine ⟨_, hv, p, xs, rfl, .inl ⟨.inl (.inl (e1 _ _ hp)), fun r hr => q _ _ (Ex.new hr) (.tup (.inl (.inl ?_)) (hd.up (ex_grow S.ex (e1.trans (Ex.new hr)))))⟩⟩
  rw [grow_new (fresh_back e1 hr)]
  exact upd_same
/-! tests -/
theorem eb_test {b : Bool} (h : EvX K ta es (.bool b)) : EvB K (tTest ta) es b := .mk fun {_ _ _} S {_} e1 {_} q => h.1 S e1 fun x H2 e2 hx => ⟨b, dp_bl hx, q H2 e2⟩
theorem eb_B {b : Bool} (h : EvX K ta es (.bool b)) : EvB K (tB ta) es b := .mk fun {_ _ _} S {_} e1 {_} q => h.1 S e1 fun x H2 e2 hx => ⟨b, dp_bl hx, q H2 e2⟩
theorem eb_and {a b : Bool} (h1 : EvB K t es a) (h2 : a = true → EvB K u es b) : EvB K (tAnd t u) es (a && b) := .mk fun {_ _ _} S {_} e1 {_} q => h1.1 S e1 fun H2 e2 => by
  cases a with
  | true => exact iteT ((h2 rfl).1 S (e1.trans e2) fun H3 e3 => q H3 (e2.trans e3))
  | false => exact iteF (q H2 e2)
theorem eb_or {a b : Bool} (h1 : EvB K t es a) (h2 : a = false → EvB K u es b) : EvB K (tOr t u) es (a || b) := .mk fun {_ _ _} S {_} e1 {_} q => h1.1 S e1 fun H2 e2 => by
  cases a with
  | true => exact iteT (q H2 e2)
  | false => exact iteF ((h2 rfl).1 S (e1.trans e2) fun H3 e3 => q H3 (e2.trans e3))
theorem eb_not {a : Bool} (h1 : EvB K t es a) : EvB K (tNot t) es (!a) := .mk fun {_ _ _} S {_} e1 {_} q => h1.1 S e1 fun H2 e2 => q H2 e2
theorem ev_andV {a b : Bool} (h1 : EvX K ta es (.bool a)) (h2 : a = true → EvX K tb es (.bool b)) : EvE K (tAndV ta tb) es (.bool (a && b)) := .mk fun {_ _ _} S {_} e1 {_} q => h1.1 S e1 fun x H2 e2 hx => ⟨a, dp_bl hx, by
  cases a with
  | true => exact iteT ((h2 rfl).1 S (e1.trans e2) fun y H3 e3 hy => q y H3 (e2.trans e3) (by rw [dp_bl hy]; exact .bl _))
  | false => exact iteF (q _ H2 e2 (.bl _))⟩
theorem ev_orV {a b : Bool} (h1 : EvX K ta es (.bool a)) (h2 : a = false → EvX K tb es (.bool b)) : EvE K (tOrV ta tb) es (.bool (a || b)) := .mk fun {_ _ _} S {_} e1 {_} q => h1.1 S e1 fun x H2 e2 hx => ⟨a, dp_bl hx, by
  cases a with
  | true => exact iteT (q _ H2 e2 (.bl _))
  | false => exact iteF ((h2 rfl).1 S (e1.trans e2) fun y H3 e3 hy => q y H3 (e2.trans e3) (by rw [dp_bl hy]; exact .bl _))⟩
theorem ev_notV {a : Bool} (h1 : EvX K ta es (.bool a)) : EvE K (tNotV ta) es (.bool (!a)) := .mk fun {_ _ _} S {_} e1 {_} q => h1.1 S e1 fun x H2 e2 hx => ⟨a, dp_bl hx, q _ H2 e2 (.bl _)⟩
def tTru (K : PySem.W.Frag) (ta : TE) : TT := fun σ H Q => ta σ H fun x H' => ∃ k, TruV K x H' k ∧ Q k H'
theorem ev_if {b : Bool} (h : EvB K t es b) (h1 : b = true → EvE K ta es d) (h2 : b = false → EvE K tb es d) : EvE K (tIf t ta tb) es d := .mk fun {_ _ _} S {_} e1 {_} q => h.1 S e1 fun H2 e2 => by
  cases b with
  | true => exact iteT ((h1 rfl).1 S (e1.trans e2) fun y H3 e3 hy => q y H3 (e2.trans e3) hy)
  | false => exact iteF ((h2 rfl).1 S (e1.trans e2) fun y H3 e3 hy => q y H3 (e2.trans e3) hy)
end

/-! ### promises -/
def spF {α : Type} (K : PySem.W.Frag) (args : α → List PyData) (pre : α → Prop) (res : α → PyData) : Sp := fun vs H Q _ => ∃ a : α, DpAll K H vs (args a) ∧ pre a ∧ ∀ v H2, Ex H H2 → Dp K H2 v (res a) → Q v H2
def spL {α : Type} (K : PySem.W.Frag) (args : α → List PyData) (pre : α → Prop) (res : α → List PyData) : Sp := fun vs H Q _ => ∃ a : α, DpAll K H vs (args a) ∧ pre a ∧
  ∀ p xs H2, H p = none → Ex H H2 → H2 p = some (.lst xs) → DpAll K (hide p H2) xs (res a) → Q (.ref p) H2
section
variable {K : PySem.W.Frag} {es : Es} {ta tb tc : TE} {d e : PyData} {ds : List PyData} {α : Type} {args : α → List PyData} {pre : α → Prop}
theorem sqT_grow {G H H2 : Hp} (hg : ∀ a o, G a = none → H a = some o → NT o) (e : Ex H H2) : ExT K H2 (grow G H H2) := fun a xs q => by
  rcases q with (q | ⟨o, q⟩) | q
  · refine .inl (.inl ?_)
    cases g : G a with
    | some o => rw [grow_pub g]; exact q
    | none =>
      cases h : H a with
      | none => rw [grow_new h]; exact q
      | some o =>
        have nt := hg a o g h
        rw [e _ _ h] at q
        cases q
        exact nt.elim
  · refine .inl (.inr ⟨o, ?_⟩)
    cases g : G a with
    | some o' => rw [grow_pub g]; exact q
    | none =>
      cases h : H a with
      | none => rw [grow_new h]; exact q
      | some o' =>
        have nt := hg a o' g h
        rw [e _ _ h] at q
        cases q
        exact nt.elim
  · exact .inr q
theorem exT_hide {p : Addr} {G : Hp} {xs : List V} (h : G p = some (.lst xs)) : ExT K G (hide p G) := fun a ys q => by
  rcases q with (q | ⟨o, q⟩) | q
  · refine .inl (.inl ?_)
    rw [hide_ne fun z => by rw [z, h] at q; cases q]
    exact q
  · refine .inl (.inr ⟨o, ?_⟩)
    rw [hide_ne fun z => by rw [z, h] at q; cases q]
    exact q
  · exact .inr q
theorem ev_call {res : α → PyData} {t : TA} {E : XK} (a : α) (h : EvA K t es (args a)) (hp : pre a) (hi : imm (res a) = true) : EvE K (tCall (spF K args pre res) [] E t) es (res a) := .mk fun {G H σ} S {H1} e1 {Q} q =>
  h.1 S e1 fun vs H2 e2 hd => ⟨a, by rw [List.append_nil]; exact hd, hp, fun v H3 e3 hv => q v H3 (e2.trans e3) (dp_imm (sqT_grow S.prv ((e1.trans e2).trans e3)) _ _ hi hv)⟩
theorem ev_callX {res : α → PyData} {t : TA} {E : XK} (a : α) (h : EvA K t es (args a)) (hp : pre a) : EvX K (tCall (spF K args pre res) [] E t) es (res a) := .mk fun {G H σ} S {H1} e1 {Q} q =>
  h.1 S e1 fun vs H2 e2 hd => ⟨a, by rw [List.append_nil]; exact hd, hp, fun v H3 e3 hv => q v H3 (e2.trans e3) hv⟩
theorem ef_call {res : α → List PyData} {t : TA} {E : XK} (a : α) (h : EvA K t es (args a)) (hp : pre a) (hi : immAll (res a) = true) : EvF K (tCall (spL K args pre res) [] E t) es (res a) := .mk fun {G H σ} S {H1} e1 {Q} q =>
  h.1 S e1 fun vs H2 e2 hd => ⟨a, by rw [List.append_nil]; exact hd, hp, fun p xs H3 n e3 hl hx => q p xs H3 (fresh_back e2 n) (e2.trans e3) hl (by
    have hG : grow G H H3 p = some (.lst xs) := by
      rw [grow_new (fresh_back (e1.trans e2) n)]
      exact hl
    exact dpa_imm (exT_hide hG) _ _ hi (dpa_imm (sqT_grow S.prv ((e1.trans e2).trans e3)) _ _ hi (hx.up hide_ex)))⟩
end

/-! ### statements -/
inductive Rt where
  | val (d : PyData)
  | fresh (ds : List PyData)
structure Post where
  nx : Es → Prop := fun _ => False
  rt : Rt → Prop := fun _ => False
  bk : Es → Prop := fun _ => False
  ct : Es → Prop := fun _ => False
def RtOk (K : PySem.W.Frag) (G H : Hp) (v : V) : Rt → Prop
  | .val d => Dp K H v d
  | .fresh ds => ∃ p xs, v = .ref p ∧ G p = none ∧ H p = some (.lst xs) ∧ DpAll K (hide p H) xs ds
structure Dk (K : PySem.W.Frag) (G : Hp) (P : Post) (D : Ends) : Prop where
  nx : ∀ G' H' σ' es', P.nx es' → Ex G G' → SE K G' H' σ' es' → D.nx σ' H'
  bk : ∀ G' H' σ' es', P.bk es' → Ex G G' → SE K G' H' σ' es' → D.bk σ' H'
  ct : ∀ G' H' σ' es', P.ct es' → Ex G G' → SE K G' H' σ' es' → D.ct σ' H'
  rt : ∀ v H' r, P.rt r → Ex G H' → RtOk K G H' v r → D.rt v H'
structure Ws (K : PySem.W.Frag) (t : TS) (es : Es) (P : Post) : Prop where
  run : ∀ {G H : Hp} {σ : L2.St} {D : Ends}, SE K G H σ es → Dk K G P D → t D σ H
section
variable {K : PySem.W.Frag} {es : Es} {ta tb te : TE} {tc : TT} {t u : TS} {d e : PyData} {ds : List PyData} {P : Post}
theorem RtOk.back {G G' H : Hp} {v : V} (e : Ex G G') : ∀ {r : Rt}, RtOk K G' H v r → RtOk K G H v r
  | .val _, h => h
  | .fresh _, ⟨p, xs, a, b, c⟩ => ⟨p, xs, a, fresh_back e b, c⟩
theorem Dk.mono {G G' : Hp} {D : Ends} (k : Dk K G P D) (e : Ex G G') : Dk K G' P D where
  nx := fun G2 H2 σ2 es2 h e2 S => k.nx G2 H2 σ2 es2 h (e.trans e2) S
  bk := fun G2 H2 σ2 es2 h e2 S => k.bk G2 H2 σ2 es2 h (e.trans e2) S
  ct := fun G2 H2 σ2 es2 h e2 S => k.ct G2 H2 σ2 es2 h (e.trans e2) S
  rt := fun v H2 r h e2 o => k.rt v H2 r h (e.trans e2) (o.back e)
theorem w_seq (h : Ws K t es { P with nx := fun e => Ws K u e P }) : Ws K (tSeq t u) es P := .mk fun {G H σ D} S k =>
  h.1 (D := { D with nx := u D }) S ⟨fun G' H' σ' es' hu e S' => hu.1 S' (k.mono e), k.bk, k.ct, k.rt⟩
theorem w_next (h : P.nx es) : Ws K tNext es P := .mk fun {G H σ D} S k => k.nx G H σ es h (Ex.refl _) S
theorem w_break (h : P.bk es) : Ws K tBreak es P := .mk fun {G H σ D} S k => k.bk G H σ es h (Ex.refl _) S
theorem w_cont (h : P.ct es) : Ws K tCont es P := .mk fun {G H σ D} S k => k.ct G H σ es h (Ex.refl _) S
theorem w_asg {i : Nat} (h : EvE K te es d) (hn : P.nx (es.set i (.dat d))) : Ws K (tAsg te (gName i)) es P := .mk fun {G H σ D} S k =>
  h.1 S (Ex.refl _) fun v H2 e2 hd => k.nx _ _ _ _ hn (ex_grow S.ex e2) ((S.grow e2).putDat i hd)
theorem w_asgF {i : Nat} (h : EvF K te es ds) (hn : P.nx (es.set i (.own ds))) : Ws K (tAsg te (gName i)) es P := .mk fun {G H σ D} S k =>
  h.1 S (Ex.refl _) fun p xs H2 n e2 hp hd => k.nx _ _ _ _ hn (ex_hide (ex_grow S.ex e2) (fresh_back S.ex n)) (S.putOwn i e2 n hp hd)
theorem w_asgR {i : Nat} {ta : TA} {lo hi : Int} (h : EvA K ta es [.int lo, .int hi]) (hn : P.nx (es.set i (.rng lo hi))) :
    Ws K (tAsg (tCB (fun vs H Q => ∃ i j, vs = [V.int i, V.int j] ∧ ∀ p, H p = none → Q (.ref p) (upd H p (.rng i j))) ta) (gName i)) es P := .mk fun {G H σ D} S k =>
  h.1 S (Ex.refl _) fun vs H2 e2 hd => by
    obtain ⟨v, w, rfl, h1, h2⟩ := dpa_two hd
    refine ⟨lo, hi, by rw [dp_int h1, dp_int h2], fun p hp => ?_⟩
    have e3 : Ex H (upd H2 p (.rng lo hi)) := e2.trans (Ex.new hp)
    refine k.nx _ _ _ _ hn (ex_grow S.ex e3) ((S.grow e3).putRng i ?_)
    rw [grow_new (fresh_back e2 hp)]
    exact upd_same
theorem w_drop (h : EvX K te es d) (hn : P.nx es) : Ws K (tDrop te) es P := .mk fun {G H σ D} S k =>
  h.1 S (Ex.refl _) fun v H2 e2 hd => k.nx _ _ _ _ hn (ex_grow S.ex e2) (S.grow e2)
theorem w_ret (h : EvX K te es d) (hr : P.rt (.val d)) : Ws K (tRet te) es P := .mk fun {G H σ D} S k =>
  h.1 S (Ex.refl _) fun v H2 e2 hd => k.rt v H2 _ hr (S.ex.trans e2) hd
theorem w_retF (h : EvF K te es ds) (hr : P.rt (.fresh ds)) : Ws K (tRet te) es P := .mk fun {G H σ D} S k =>
  h.1 S (Ex.refl _) fun p xs H2 n e2 hp hd => k.rt _ H2 _ hr (S.ex.trans e2) ⟨p, xs, rfl, fresh_back S.ex n, hp, hd.up (hide_mono grow_ex)⟩
theorem w_retO {i : Nat} (h : es[i]? = some (Ent.own ds)) (hr : P.rt (.fresh ds)) : Ws K (tRet (tVar i)) es P := .mk fun {G H σ D} S k => by
  obtain ⟨p, xs, hv, gp, hp, hd⟩ := S.own i ds h
  exact ⟨_, hv, k.rt _ H _ hr S.ex ⟨p, xs, rfl, gp, hp, hd.up (ex_hide S.ex gp)⟩⟩
theorem w_retN (hr : P.rt (.val .none)) : Ws K tRetN es P := .mk fun {G H σ D} S k => k.rt _ H _ hr S.ex .non
theorem w_if {b : Bool} (h : EvB K tc es b) (h1 : b = true → Ws K t es P) (h2 : b = false → Ws K u es P) : Ws K (tIfS tc t u) es P := .mk fun {G H σ D} S k =>
  h.1 S (Ex.refl _) fun H2 e2 => by
    cases b with
    | true => exact iteT ((h1 rfl).1 (S.grow e2) (k.mono (ex_grow S.ex e2)))
    | false => exact iteF ((h2 rfl).1 (S.grow e2) (k.mono (ex_grow S.ex e2)))
/-- a list of one's own is shared from here on -/
theorem w_share {i : Nat} (hi : es[i]? = some (Ent.own ds)) (h : Ws K t (es.set i (.dat (.list ds))) P) : Ws K t es P := .mk fun {G H σ D} S k => by
  obtain ⟨G', e, S'⟩ := S.share hi
  exact h.1 S' (k.mono e)
theorem w_aug {i : Nat} {f : Int → Int → Int} {a b : Int} (hi : es[i]? = some (Ent.dat (.int a))) (h : EvX K te es (.int b)) (hn : P.nx (es.set i (.dat (.int (f a b))))) : Ws K (tAug i te (ipI f)) es P := .mk fun {G H σ D} S k => by
  obtain ⟨v, hv, hd⟩ := S.dat i _ hi
  refine ⟨v, hv, h.1 S (Ex.refl _) fun w H2 e2 hw => ⟨a, b, dp_int hd, dp_int hw, ?_⟩⟩
  exact k.nx _ _ _ _ hn (ex_grow S.ex e2) ((S.grow e2).putDat i (.int _))
/-- .append -/
theorem w_append {i : Nat} (hi : es[i]? = some (Ent.own ds)) (h : EvE K te es d) (hz : ds.length < 100000) (hn : P.nx (es.set i (.own (ds ++ [d])))) : Ws K (tDrop (tBM K "list" rAppend (tVar i) (tCons te tNil))) es P := .mk fun {G H σ D} S k => by
  obtain ⟨p, xs, hv, gp, hp, hd⟩ := S.own i ds hi
  refine ⟨_, hv, .inl ⟨rfl, xs, .inl (.inl hp)⟩, h.1 S (Ex.refl _) fun v H2 e2 hw => ?_⟩
  refine ⟨p, xs, v, rfl, rfl, e2 _ _ hp, sz_lt (by rw [dpa_len hd]; exact hz), ?_⟩
  exact k.nx _ _ _ _ hn (ex_grow S.ex e2) ((S.grow e2).write hi hv (dpa_snoc (hd.up (ex_grow S.ex e2)) hw))
/-- x = xs.pop() -/
theorem w_pop {i j : Nat} (hij : i ≠ j) (hi : es[i]? = some (Ent.own (ds ++ [d]))) (hn : P.nx ((es.set i (.own ds)).set j (.dat d))) : Ws K (tAsg (tBM0 K "list" rPop (tVar i)) (gName j)) es P := .mk fun {G H σ D} S k => by
  obtain ⟨p, xs, hv, gp, hp, hd⟩ := S.own i _ hi
  have hl := dpa_len hd
  rw [List.length_append] at hl
  have hl : xs.length = ds.length + 1 := hl
  obtain ⟨v, hx, hdv⟩ := dpa_at (i := ds.length) (d := d) hd (by rw [List.getElem?_append_right (Nat.le_refl _), Nat.sub_self]; rfl)
  refine ⟨_, hv, .inl ⟨rfl, xs, .inl (.inl hp)⟩, p, xs, v, rfl, rfl, hp, by rw [hl]; exact hx, ?_⟩
  have hd2 : DpAll K G xs.dropLast ds := by
    have q := dpa_dropLast hd
    rw [List.dropLast_concat] at q
    exact q
  exact k.nx _ _ _ _ hn (Ex.refl _) ((S.write hi hv hd2).putDat j hdv)
/-- xs.extend(ys) -/
theorem w_extend {i : Nat} {es' : List PyData} (hi : es[i]? = some (Ent.own ds)) (h : EvF K te es es') (hz : ds.length + es'.length ≤ 100000) (hn : P.nx (es.set i (.own (ds ++ es')))) : Ws K (tDrop (tBM K "list" rExtend (tVar i) (tCons te tNil))) es P := .mk fun {G H σ D} S k => by
  obtain ⟨p, xs, hv, gp, hp, hd⟩ := S.own i ds hi
  refine ⟨_, hv, .inl ⟨rfl, xs, .inl (.inl hp)⟩, h.1 S (Ex.refl _) fun b ys H2 n e2 hb hw => ?_⟩
  refine ⟨p, b, xs, ys, rfl, rfl, e2 _ _ hp, hb, sz_of (by rw [dpa_len hd, dpa_len hw]; exact hz), ?_⟩
  exact k.nx _ _ _ _ hn (ex_grow S.ex e2) ((S.grow e2).write hi hv (dpa_app (hd.up (ex_grow S.ex e2)) (hw.up hide_ex)))
/-- xs[k] = e -/
theorem w_setL {i n : Nat} {z : Int} (h : EvE K te es d) (hi : es[i]? = some (Ent.own ds)) (hb : EvX K tb es (.int z)) (hz : ixN ds.length z = some n) (hn : P.nx (es.set i (.own (ds.set n d)))) : Ws K (tAsg te (gSub (tVar i) tb rSetL)) es P := .mk fun {G H σ D} S k => by
  refine h.1 S (Ex.refl _) fun v H2 e2 hw => ?_
  obtain ⟨p, xs, hv, gp, hp, hd⟩ := S.own i ds hi
  refine ⟨_, hv, hb.1 S e2 fun y H3 e3 hy => ?_⟩
  refine ⟨p, xs, z, n, rfl, dp_int hy, e3 _ _ (e2 _ _ hp), by rw [dpa_len hd]; exact hz, ?_⟩
  have e23 := e2.trans e3
  exact k.nx _ _ _ _ hn (ex_grow S.ex e23) ((S.grow e23).write hi hv (dpa_set n (hd.up (ex_grow S.ex e23)) (hw.up (grow_mono e3))))
end
end Pu

namespace Pu
open PySem PySem.Spec L2 Evl
open PyProof.Rows (envOfC)

/-! ### ranges that are kept, of any size -/
theorem turn_long {P : Program} {w : World} {K : PySem.W.Frag} {tg : Expr} (it : Addr) (lo : Int) (n : Nat) : Turn P w K tg (Itr lo n) [it] it (fun i h => IsLongIter h it (lo + (i : Nat) * 1) ((n : Int) - (i : Nat)) 1) where
  mem := by simp
  obj := fun i h st b hb => by
    have e : b = it := by simpa using hb
    subst e
    exact ⟨_, st, fun v z => by
      have z' : Data.fields _ = Data.cell v := z
      cases z'⟩
  keep := fun i h h' st k => k it (by simp) _ st
  item := by
    intro X hP hw hK hc i pins s σ H E I hf st hg
    subst hP hw hK
    obtain ⟨f0, f1, f2, f3, f4, f5⟩ := hf it (by simp)
    have W := Walks.longrange (prog := X.prog) (w := X.w) (I.ok.hd hc) it lo 1 n
    refine W.item i s _ _ hg st fun v h' tk hv st' kk => ?_
    obtain ⟨t, rfl⟩ := hv
    have I1 : Inv X pins σ H { s with heap := h', toks := tk } := I.turned (fun b o hb e => kk b o (by simpa using hb) e) f0 f1 f3 f4 f5
    refine ⟨_, rfl, go_of (s := { s with heap := h', toks := tk }) (n := "longrange_iterator") st' rfl rfl (by decide) ⟨.int (lo + i), H, I1, ⟨t, ?_⟩, ⟨rfl, rfl⟩, st', fun b hb => (hf b hb).1⟩⟩
    rw [Int.mul_one]
  done := by
    intro X hP hw hK hc i pins s σ H E I hf st hg
    subst hP hw hK
    obtain ⟨f0, f1, f2, f3, f4, f5⟩ := hf it (by simp)
    exact wpAny_pyNext_long_end (I.ok.hd hc) st (by have : n ≤ i := hg; omega) fun h' eb => ⟨rfl, I.turned (t' := s.toks) (fun b o hb e => eb b o hb e) f0 f1 f3 f4 f5⟩
  self := fun _ _ _ _ _ st h => wpAny_pyIter_longiter st h
def iRngO (tl : TE) : TI := fun σ H R => tl σ H fun x H1 => ∃ a lo hi, x = .ref a ∧ H1 a = some (.rng lo hi) ∧ R (Itr lo (hi - lo).toNat) H1
theorem pi_rngO {X : Cx} {tg l : Expr} {tl : TE} (hl : PE X l tl) : PI X tg l (iRngO tl) := by
  refine ⟨fun pins s σ H R I h => ?_⟩
  refine thn (hl.run pins s σ H _ I h) fun v s1 ⟨x, H1, I1, r1, q1⟩ => ?_
  obtain ⟨a, lo, hi, e, hq, q⟩ := q1
  subst e
  cases r1
  obtain ⟨t, u, v, ho⟩ := I1.hok a _ hq
  have e2 : (((hi - lo).toNat : Nat) : Int) - ((0 : Nat) : Int) = Builtin.Range.rangeSize lo hi 1 := by rw [rangeSize_one]; split <;> omega
  have e1 : lo + ((0 : Nat) : Int) * 1 = lo := by simp
  by_cases hs : Builtin.Range.small lo hi 1 = true
  · refine wpAny_pyIter_range ho hs ?_
    refine ⟨s1.heap.objs.size, [s1.heap.objs.size], _, _, H1, rfl, I1.kept (t' := s1.toks) fun b o e => Heap.get?_push_of_some _ e, turn_range _ lo (hi - lo).toNat, ?_, fun b hb => ?_, q⟩
    · show IsRangeIter _ _ (lo + ((0 : Nat) : Int) * 1) ((((hi - lo).toNat : Nat) : Int) - ((0 : Nat) : Int)) 1
      rw [e1, e2]
      exact Heap.get?_push_size _ rfl
    · have e : b = s1.heap.objs.size := by simpa using hb
      subst e
      exact I1.fpOk (Nat.le_refl _) (I1.hok.fresh (Nat.le_refl _))
  · refine wpAny_pyIter_longrange ho (by simpa using hs) ?_
    refine ⟨s1.heap.objs.size, [s1.heap.objs.size], _, _, H1, rfl, I1.kept (t' := s1.toks) fun b o e => Heap.get?_push_of_some _ e, turn_long _ lo (hi - lo).toNat, ?_, fun b hb => ?_, q⟩
    · show IsLongIter _ _ (lo + ((0 : Nat) : Int) * 1) ((((hi - lo).toNat : Nat) : Int) - ((0 : Nat) : Int)) 1
      rw [e1, e2]
      exact Heap.get?_push_size _ rfl
    · have e : b = s1.heap.objs.size := by simpa using hb
      subst e
      exact I1.fpOk (Nat.le_refl _) (I1.hok.fresh (Nat.le_refl _))

/-! ### what is walked -/
structure ItOk (K : PySem.W.Frag) (G : Hp) (J : It) (ds : List PyData) : Prop where
  go : ∀ i H', Ex G H' → i < ds.length → J.go i H'
  yld : ∀ i x H' H'', Ex G H' → i < ds.length → J.yld i H' x H'' → H'' = H' ∧ ∃ d, ds[i]? = some d ∧ Dp K G x d
  stop : ∀ H', Ex G H' → J.stop ds.length H'
structure EvI (K : PySem.W.Frag) (wi : TI) (es : Es) (ds : List PyData) : Prop where
  run : ∀ {G H : Hp} {σ : L2.St}, SE K G H σ es → ∀ {H1 : Hp}, Ex H H1 → ∀ {R : It → Hp → Prop}, (∀ J H2, Ex H1 H2 → ItOk K (grow G H H2) J ds → R J H2) → wi σ H1 R
section
variable {K : PySem.W.Frag} {es : Es} {ta tb te tl : TE} {tc tt : TT} {t u : TS} {d e : PyData} {ds : List PyData} {P : Post}
theorem it_list {G : Hp} {a : Addr} {xs : List V} (hs : SqL K G a xs) (hd : DpAll K G xs ds) : ItOk K G (Itl K a) ds where
  go := fun i H' e hi => by
    obtain ⟨v, hv, _⟩ := dpa_at hd (List.getElem?_eq_getElem hi)
    exact ⟨xs, v, ex_l e hs, hv⟩
  yld := fun i x H' H'' e hi y => by
    obtain ⟨e1, y⟩ := y
    obtain ⟨v, hv, hdv⟩ := dpa_at hd (List.getElem?_eq_getElem hi)
    have := y xs (ex_l e hs)
    rw [hv] at this
    cases this
    exact ⟨e1, _, List.getElem?_eq_getElem hi, hdv⟩
  stop := fun H' e => ⟨xs, ex_l e hs, by rw [dpa_len hd]; exact Nat.le_refl _⟩
theorem it_tup {G : Hp} {a : Addr} {xs : List V} (hs : SqT K G a xs) (hd : DpAll K G xs ds) : ItOk K G (Itt K a) ds where
  go := fun i H' e hi => by
    obtain ⟨v, hv, _⟩ := dpa_at hd (List.getElem?_eq_getElem hi)
    exact ⟨xs, v, ex_t e hs, hv⟩
  yld := fun i x H' H'' e hi y => by
    obtain ⟨e1, y⟩ := y
    obtain ⟨v, hv, hdv⟩ := dpa_at hd (List.getElem?_eq_getElem hi)
    have := y xs (ex_t e hs)
    rw [hv] at this
    cases this
    exact ⟨e1, _, List.getElem?_eq_getElem hi, hdv⟩
  stop := fun H' e => ⟨xs, ex_t e hs, by rw [dpa_len hd]; exact Nat.le_refl _⟩
/-- lo, lo + 1, .. -/
def rngD (lo : Int) (n : Nat) : List PyData := (List.range n).map fun i => PyData.int (lo + (i : Nat))
theorem rngD_len {lo : Int} {n : Nat} : (rngD lo n).length = n := by unfold rngD; rw [List.length_map, List.length_range]
theorem rngD_get {lo : Int} {n i : Nat} (h : i < n) : (rngD lo n)[i]? = some (.int (lo + (i : Nat))) := by
  unfold rngD
  rw [List.getElem?_map, List.getElem?_range h]
  rfl
theorem it_rng {G : Hp} {lo : Int} {n : Nat} : ItOk K G (Itr lo n) (rngD lo n) where
  go := fun i H' e hi => by rw [rngD_len] at hi; exact hi
  yld := fun i x H' H'' e hi y => by
    rw [rngD_len] at hi
    obtain ⟨e1, rfl⟩ := y
    exact ⟨e1, _, rngD_get hi, .int _⟩
  stop := fun H' e => by rw [rngD_len]; exact Nat.le_refl _
theorem ei_list (h : EvE K tl es (.list ds)) : EvI K (iList K tl) es ds := .mk fun {G H σ} S {H1} e1 {R} q => h.1 S e1 fun x H2 e2 hx => by
  obtain ⟨p, xs, rfl, hs, hd⟩ := dp_lst hx
  exact ⟨p, rfl, ⟨xs, ex_l grow_ex hs⟩, q _ H2 e2 (it_list hs hd)⟩
theorem ei_tup (h : EvE K tl es (.tuple ds)) : EvI K (iTup K tl) es ds := .mk fun {G H σ} S {H1} e1 {R} q => h.1 S e1 fun x H2 e2 hx => by
  obtain ⟨p, xs, rfl, hs, hd⟩ := dp_tup hx
  exact ⟨p, rfl, ⟨xs, ex_t grow_ex hs⟩, q _ H2 e2 (it_tup hs hd)⟩
theorem ei_rng1 {ta : TA} {n : Int} (h : EvA K ta es [.int n]) (hn : -(2 ^ 62) ≤ n ∧ n < 2 ^ 62) : EvI K (iRng1 ta) es (rngD 0 n.toNat) := .mk fun {G H σ} S {H1} e1 {R} q => h.1 S e1 fun vs H2 e2 hx => by
  obtain ⟨v, rfl, hv⟩ := dpa_one hx
  exact ⟨n, by rw [dp_int hv], hn.1, hn.2, q _ H2 e2 it_rng⟩
theorem ei_rng2 {ta : TA} {m n : Int} (h : EvA K ta es [.int m, .int n]) (hm : -(2 ^ 62) ≤ m ∧ m < 2 ^ 62) (hn : -(2 ^ 62) ≤ n ∧ n < 2 ^ 62) : EvI K (iRng2 ta) es (rngD m (n - m).toNat) := .mk fun {G H σ} S {H1} e1 {R} q => h.1 S e1 fun vs H2 e2 hx => by
  obtain ⟨v, w, rfl, hv, hw⟩ := dpa_two hx
  exact ⟨m, n, by rw [dp_int hv, dp_int hw], ⟨hm.1, hm.2, hn.1, hn.2⟩, q _ H2 e2 it_rng⟩
theorem ei_rngO {i : Nat} {lo hi : Int} (h : es[i]? = some (Ent.rng lo hi)) : EvI K (iRngO (tVar i)) es (rngD lo (hi - lo).toNat) := .mk fun {G H σ} S {H1} e1 {R} q => by
  obtain ⟨p, hv, hp⟩ := S.rng i lo hi h
  exact ⟨_, hv, p, lo, hi, rfl, e1 _ _ (S.ex _ _ hp), q _ H1 (Ex.refl _) it_rng⟩

/-! ### targets -/
structure Tg (K : PySem.W.Frag) (g : TG) (d : PyData) (es es' : Es) : Prop where
  run : ∀ {G H : Hp} {σ : L2.St} {v : V}, SE K G H σ es → Dp K G v d → ∀ {Q : L2.St → Hp → Prop}, (∀ σ', SE K G H σ' es' → Q σ' H) → g v σ H Q
theorem tg_name {j : Nat} : Tg K (gName j) d es (es.set j (.dat d)) := .mk fun {G H σ v} S hv {Q} q => q _ (S.putDat j hv)
structure TgA (K : PySem.W.Frag) (g : TGs) (ds : List PyData) (es es' : Es) : Prop where
  run : ∀ {G H : Hp} {σ : L2.St} {vs : List V}, SE K G H σ es → DpAll K G vs ds → ∀ {Q : L2.St → Hp → Prop}, (∀ σ', SE K G H σ' es' → Q σ' H) → g vs σ H Q
theorem tga_nil : TgA K gNil [] es es := .mk fun {G H σ vs} S hv {Q} q => ⟨dpa_nil hv, q _ S⟩
theorem tga_cons {g : TG} {gs : TGs} {e1 e2 : Es} (h : Tg K g d es e1) (h2 : TgA K gs ds e1 e2) : TgA K (gCons g gs) (d :: ds) es e2 := .mk fun {G H σ vs} S hv {Q} q => by
  obtain ⟨v, r, rfl, a, b⟩ := dpa_cons hv
  exact ⟨v, r, rfl, h.1 S a fun σ' S' => h2.1 S' b q⟩
theorem tg_tup {gs : TGs} {n : Nat} {e1 : Es} (h : TgA K gs ds es e1) (hn : ds.length = n) : Tg K (gTup K n gs) (.tuple ds) es e1 := .mk fun {G H σ v} S hv {Q} q => by
  obtain ⟨p, xs, rfl, hs, hd⟩ := dp_tup hv
  exact ⟨p, xs, rfl, ex_t S.ex hs, by rw [dpa_len hd]; exact hn, h.1 S hd q⟩
theorem w_asgT {g : TG} {e1 : Es} (h : EvE K te es d) (ht : Tg K g d es e1) (hn : P.nx e1) : Ws K (tAsg te g) es P := .mk fun {G H σ D} S k =>
  h.1 S (Ex.refl _) fun v H2 e2 hd => ht.1 (S.grow e2) hd fun σ' S' => k.nx _ _ _ _ hn (ex_grow S.ex e2) S'

/-! ### loops -/
theorem w_for {wi : TI} {g : TG} {tb : TS} (h : EvI K wi es ds) (Iv : Nat → Es → Prop) (h0 : Iv 0 es)
    (hs : ∀ i d e, ds[i]? = some d → Iv i e → ∃ e', Tg K g d e e' ∧ Ws K tb e' ⟨Iv (i + 1), P.rt, P.nx, Iv (i + 1)⟩) (hd : ∀ e, Iv ds.length e → P.nx e) : Ws K (tFor wi g tb) es P := .mk fun {G H σ D} S k =>
  h.1 S (Ex.refl _) fun J H2 e2 hJ => by
    refine ⟨fun i m σ' H' => m = ds.length - i ∧ i ≤ ds.length ∧ ∃ G' es', Iv i es' ∧ Ex (grow G H H2) G' ∧ SE K G' H' σ' es', ⟨ds.length, by simp, Nat.zero_le _, _, es, h0, Ex.refl _, S.grow e2⟩, ?_⟩
    rintro i m σ' H' ⟨rfl, hi, G', es', hv, eG, S'⟩
    have e0 : Ex G G' := (ex_grow S.ex e2).trans eG
    by_cases hlt : i < ds.length
    · refine .inr ⟨hJ.go i H' (eG.trans S'.ex) hlt, fun σ2 H3 => ∃ G2 es2, Iv (i + 1) es2 ∧ Ex (grow G H H2) G2 ∧ SE K G2 H3 σ2 es2, fun σ2 H3 q => ⟨ds.length - (i + 1), by omega, rfl, hlt, q⟩, fun x H3 y => ?_⟩
      obtain ⟨rfl, d, hdi, hx⟩ := hJ.yld i x H' H3 (eG.trans S'.ex) hlt y
      obtain ⟨e', tg, ws⟩ := hs i d es' hdi hv
      refine tg.1 S' (hx.up eG) fun σ2 S2 => ws.1 S2 ⟨fun G3 H3 σ3 es3 q e3 S3 => ⟨G3, es3, q, eG.trans e3, S3⟩, fun G3 H3 σ3 es3 q e3 S3 => k.nx G3 H3 σ3 es3 q (e0.trans e3) S3, fun G3 H3 σ3 es3 q e3 S3 => ⟨G3, es3, q, eG.trans e3, S3⟩, fun v H3 r q e3 o => k.rt v H3 r q (e0.trans e3) (o.back e0)⟩
    · have e : i = ds.length := by omega
      subst e
      exact .inl ⟨hJ.stop H' (eG.trans S'.ex), k.nx _ _ _ _ (hd es' hv) e0 S'⟩
theorem w_forN {wi : TI} {j : Nat} {tb : TS} (h : EvI K wi es ds) (Iv : Nat → Es → Prop) (h0 : Iv 0 es)
    (hs : ∀ i d e, ds[i]? = some d → Iv i e → Ws K tb (e.set j (.dat d)) ⟨Iv (i + 1), P.rt, P.nx, Iv (i + 1)⟩) (hd : ∀ e, Iv ds.length e → P.nx e) : Ws K (tFor wi (gName j) tb) es P :=
  w_for h Iv h0 (fun i d e a b => ⟨_, tg_name, hs i d e a b⟩) hd
theorem w_while {tb : TS} (Iv : Nat → Es → Prop) (m0 : Nat) (h0 : Iv m0 es)
    (hs : ∀ m e, Iv m e → ∃ b, EvB K tc e b ∧ (b = true → Ws K tb e ⟨fun e' => ∃ m', m' < m ∧ Iv m' e', P.rt, P.nx, fun e' => ∃ m', m' < m ∧ Iv m' e'⟩) ∧ (b = false → P.nx e)) : Ws K (tWhile tc tb) es P := .mk fun {G H σ D} S k => by
  refine ⟨fun m σ' H' => ∃ G' es', Iv m es' ∧ Ex G G' ∧ SE K G' H' σ' es', ⟨m0, G, es, h0, Ex.refl _, S⟩, ?_⟩
  rintro m σ' H' ⟨G', es', hv, eG, S'⟩
  obtain ⟨b, hb, h1, h2⟩ := hs m es' hv
  refine hb.1 S' (Ex.refl _) fun H2 e2 => ?_
  have e0 : Ex G (grow G' H' H2) := eG.trans (ex_grow S'.ex e2)
  cases b with
  | true =>
    refine iteT ⟨fun σ2 H3 => ∃ m', m' < m ∧ ∃ G2 es2, Iv m' es2 ∧ Ex G G2 ∧ SE K G2 H3 σ2 es2, fun σ2 H3 ⟨m', hm, q⟩ => ⟨m', hm, q⟩, (h1 rfl).1 (S'.grow e2) ⟨?_, ?_, ?_, ?_⟩⟩
    · rintro G3 H3 σ3 es3 ⟨m', hm, q⟩ e3 S3
      exact ⟨m', hm, G3, es3, q, e0.trans e3, S3⟩
    · exact fun G3 H3 σ3 es3 q e3 S3 => k.nx G3 H3 σ3 es3 q (e0.trans e3) S3
    · rintro G3 H3 σ3 es3 ⟨m', hm, q⟩ e3 S3
      exact ⟨m', hm, G3, es3, q, e0.trans e3, S3⟩
    · exact fun v H3 r q e3 o => k.rt v H3 r q (e0.trans e3) (o.back e0)
  | false => exact iteF (k.nx _ _ _ _ (h2 rfl) e0 (S'.grow e2))

/-! ### comprehensions -/
theorem eb_yes : EvB K tYes es true := .mk fun {_ _ _} S {_} e1 {_} q => q _ (Ex.refl _)
theorem hide_upd {G H H2 : Hp} {p : Addr} {o : HO} : hide p (grow G H (upd H2 p o)) = hide p (grow G H H2) := by
  funext a
  by_cases z : a = p
  · rw [z, hide_self, hide_self]
  · rw [hide_ne z, hide_ne z]
    unfold grow
    rw [upd_ne z]
/-- the split within a comprehension: its list is private -/
theorem SE.within {G H H' : Hp} {σ : L2.St} {p : Addr} {xs : List V} (S : SE K G H σ es) (hn : H p = none) (e : Ex H H') (hp : H' p = some (.lst xs)) : SE K (hide p (Pu.grow G H H')) H' σ es := by
  have gp : G p = none := fresh_back S.ex hn
  refine S.re (ex_hide (ex_grow S.ex e) gp) (hide_ex.trans grow_ex) e (fun q ys h1 h2 => ?_) (fun a o h1 h2 => ?_)
  · by_cases z : q = p
    · rw [z, hide_self]
    · rw [hide_ne z, grow_priv h1 h2]
  · by_cases z : a = p
    · rw [z, hp] at h2
      cases h2
      trivial
    · rw [hide_ne z] at h1
      exact prv_grow S.prv e a o h1 h2
theorem within_ex {G H H' H4 : Hp} {p : Addr} {xs : List V} (e : Ex H H') (hp : H' p = some (.lst xs)) : Ex (grow (hide p (grow G H H')) H' H4) (hide p (grow G H H4)) := fun a o h => by
  by_cases z : a = p
  · rw [z, grow_priv hide_self hp] at h
    cases h
  · rw [hide_ne z]
    have h4 := grow_ex _ _ h
    cases hg : G a with
    | some u => rw [grow_pub hg]; exact h4
    | none =>
      cases hh : H a with
      | none => rw [grow_new hh]; exact h4
      | some u =>
        have q : hide p (grow G H H') a = none := by rw [hide_ne z, grow_priv hg hh]
        rw [grow_priv q (e _ _ hh)] at h
        cases h
theorem filt_snoc_yes {f : PyData → Bool} {g : PyData → PyData} {i : Nat} (h : ds[i]? = some d) (hf : f d = true) : ((ds.take (i + 1)).filter f).map g = ((ds.take i).filter f).map g ++ [g d] := by
  rw [List.take_add_one, h, List.filter_append, List.map_append]
  show _ ++ ([d].filter f).map g = _
  rw [List.filter_cons, if_pos hf]
  rfl
theorem filt_snoc_no {f : PyData → Bool} {g : PyData → PyData} {i : Nat} (h : ds[i]? = some d) (hf : f d = false) : ((ds.take (i + 1)).filter f).map g = ((ds.take i).filter f).map g := by
  rw [List.take_add_one, h, List.filter_append, List.map_append]
  show _ ++ ([d].filter f).map g = _
  rw [List.filter_cons, if_neg (by rw [hf]; decide)]
  exact List.append_nil _
theorem ef_lc {wi : TI} {j : Nat} {vs : List Nat} (f : PyData → Bool) (g : PyData → PyData) (h : EvI K wi es ds) (hz : ds.length ≤ 50000) (hj : ∀ σ x, wipe ((wipe σ vs).set j x) vs = wipe σ vs)
    (ht : ∀ d ∈ ds, EvB K tt ((wipeE es vs).set j (.dat d)) (f d)) (he : ∀ d ∈ ds, f d = true → EvE K te ((wipeE es vs).set j (.dat d)) (g d)) : EvF K (tLc wi (gName j) tt te vs) es ((ds.filter f).map g) := .mk fun {G H σ} S {H1} e1 {Q} q =>
  h.1 S e1 fun J H2 e2 hJ Dl hD => by
    have e12 := e1.trans e2
    have hn : H Dl = none := fresh_back e12 hD
    refine ⟨fun i m H' => m = ds.length - i ∧ i ≤ ds.length ∧ Ex H2 H' ∧ ∃ acc, H' Dl = some (.lst acc) ∧ DpAll K (hide Dl (grow G H H')) acc (((ds.take i).filter f).map g), ⟨ds.length, by simp, Nat.zero_le _, Ex.new hD, [], upd_same, .nil⟩, ?_⟩
    rintro i m H' ⟨rfl, hi, eH, acc, ha, hda⟩
    have e' : Ex H H' := e12.trans eH
    by_cases hlt : i < ds.length
    · refine .inr ⟨hJ.go i H' (grow_ex.trans eH) hlt, _, fun H3 w => ⟨ds.length - (i + 1), by omega, w⟩, fun x H3 y => ?_⟩
      obtain ⟨rfl, d, hdi, hx⟩ := hJ.yld i x H' H3 (grow_ex.trans eH) hlt y
      have hm : d ∈ ds := List.mem_of_getElem? hdi
      have S2 := ((S.within hn e' ha).wipe vs).putDat j (hx.up (ex_hide (grow_mono eH) (grow_none hD)))
      refine ⟨hj σ (some x), (ht d hm).1 S2 (Ex.refl _) fun H4 e4 => ?_⟩
      have lacc : acc.length ≤ i := by
        rw [dpa_len hda, List.length_map]
        exact Nat.le_trans (List.length_filter_le _ _) (by rw [List.length_take]; exact Nat.min_le_left _ _)
      cases hf : f d with
      | true =>
        refine iteT ((he d hm hf).1 S2 e4 fun z H5 e5 hz' => ?_)
        have a5 : H5 Dl = some (.lst acc) := e5 _ _ (e4 _ _ ha)
        refine ⟨acc, a5, sz_lt (by omega), rfl, hlt, Ex.mut ((eH.trans e4).trans e5) hD, acc ++ [z], upd_same, ?_⟩
        rw [filt_snoc_yes hdi hf, hide_upd]
        exact dpa_snoc (hda.up (hide_mono (grow_mono (e4.trans e5)))) (hz'.up (within_ex e' ha))
      | false =>
        refine iteF ⟨rfl, hlt, eH.trans e4, acc, e4 _ _ ha, ?_⟩
        rw [filt_snoc_no hdi hf]
        exact hda.up (hide_mono (grow_mono e4))
    · have e : i = ds.length := by omega
      subst e
      refine .inl ⟨hJ.stop H' (grow_ex.trans eH), q Dl acc H' (fresh_back e2 hD) (e2.trans eH) ha ?_⟩
      rw [List.take_length] at hda
      exact hda
theorem ef_lcA {wi : TI} {j : Nat} {vs : List Nat} (g : PyData → PyData) (h : EvI K wi es ds) (hz : ds.length ≤ 50000) (hj : ∀ σ x, wipe ((wipe σ vs).set j x) vs = wipe σ vs)
    (he : ∀ d ∈ ds, EvE K te ((wipeE es vs).set j (.dat d)) (g d)) : EvF K (tLc wi (gName j) tYes te vs) es (ds.map g) :=
  ev_isF (ef_lc (fun _ => true) g h hz hj (fun d _ => eb_yes) fun d hd _ => he d hd) (by rw [List.filter_eq_self.mpr fun _ _ => rfl])
theorem tYes_at {σ : L2.St} {H : Hp} {Q : Bool → Hp → Prop} : tYes σ H Q = Q true H := rfl
/-- two for, no test -/
theorem ef_lc2 {wi wi1 : TI} {j j1 : Nat} {vs vs1 : List Nat} (ds1 : PyData → List PyData) (g : PyData → PyData → PyData) (h : EvI K wi es ds) (hz : (ds.flatMap fun d => (ds1 d).map (g d)).length ≤ 50000)
    (hj : ∀ σ x, wipe ((wipe σ vs).set j x) vs = wipe σ vs) (hj1 : ∀ σ x, wipe ((wipe σ vs1).set j1 x) vs1 = wipe σ vs1)
    (h1 : ∀ d ∈ ds, EvI K wi1 ((wipeE es vs).set j (.dat d)) (ds1 d))
    (he : ∀ d ∈ ds, ∀ d1 ∈ ds1 d, EvE K te ((wipeE ((wipeE es vs).set j (.dat d)) vs1).set j1 (.dat d1)) (g d d1)) : EvF K (tLc2 wi (gName j) tYes wi1 (gName j1) tYes te vs vs1) es (ds.flatMap fun d => (ds1 d).map (g d)) := .mk fun {G H σ} S {H1} e1 {Q} q =>
  h.1 S e1 fun J H2 e2 hJ Dl hD => by
    have e12 := e1.trans e2
    have hn : H Dl = none := fresh_back e12 hD
    refine ⟨fun i m H' => m = ds.length - i ∧ i ≤ ds.length ∧ Ex H2 H' ∧ ∃ acc, H' Dl = some (.lst acc) ∧ DpAll K (hide Dl (grow G H H')) acc ((ds.take i).flatMap fun d => (ds1 d).map (g d)), ⟨ds.length, by simp, Nat.zero_le _, Ex.new hD, [], upd_same, .nil⟩, ?_⟩
    rintro i m H' ⟨rfl, hi, eH, acc, ha, hda⟩
    have e' : Ex H H' := e12.trans eH
    by_cases hlt : i < ds.length
    · refine .inr ⟨hJ.go i H' (grow_ex.trans eH) hlt, fun H' => ds.length - (i + 1) = ds.length - (i + 1) ∧ i + 1 ≤ ds.length ∧ Ex H2 H' ∧ ∃ acc, H' Dl = some (.lst acc) ∧ DpAll K (hide Dl (grow G H H')) acc ((ds.take (i + 1)).flatMap fun d => (ds1 d).map (g d)), fun H3 w => ⟨ds.length - (i + 1), by omega, w⟩, fun x H3 y => ?_⟩
      obtain ⟨rfl, d, hdi, hx⟩ := hJ.yld i x H' H3 (grow_ex.trans eH) hlt y
      have hm : d ∈ ds := List.mem_of_getElem? hdi
      have S2 := ((S.within hn e' ha).wipe vs).putDat j (hx.up (ex_hide (grow_mono eH) (grow_none hD)))
      have tk : (ds.take (i + 1)).flatMap (fun d => (ds1 d).map (g d)) = (ds.take i).flatMap (fun d => (ds1 d).map (g d)) ++ (ds1 d).map (g d) := by
        rw [List.take_add_one, hdi, List.flatMap_append]
        show _ ++ List.flatMap _ [d] = _
        rw [List.flatMap_singleton]
      have tot : ((ds.take (i + 1)).flatMap (fun d => (ds1 d).map (g d))).length ≤ 50000 := by
        refine Nat.le_trans ?_ hz
        conv => rhs; rw [← List.take_append_drop (i + 1) ds, List.flatMap_append, List.length_append]
        exact Nat.le_add_right _ _
      rw [tk, List.length_append, List.length_map] at tot
      refine ⟨hj σ (some x), ?_⟩
      rw [tYes_at]
      rw [if_pos rfl]
      refine (h1 d hm).1 S2 (Ex.refl _) fun J1 H4 e4 hJ1 => ?_
      have e4' : Ex H H4 := e'.trans e4
      have a4 : H4 Dl = some (.lst acc) := e4 _ _ ha
      refine ⟨fun k n H5 => n = (ds1 d).length - k ∧ k ≤ (ds1 d).length ∧ Ex H2 H5 ∧ Ex (grow (hide Dl (grow G H H3)) H3 H4) (hide Dl (grow G H H5)) ∧ ∃ acc2, H5 Dl = some (.lst acc2) ∧ DpAll K (hide Dl (grow G H H5)) acc2 ((ds.take i).flatMap (fun d => (ds1 d).map (g d)) ++ ((ds1 d).take k).map (g d)),
        ⟨(ds1 d).length, by simp, Nat.zero_le _, eH.trans e4, within_ex e' ha, acc, a4, ?_⟩, ?_⟩
      · show DpAll K _ acc (_ ++ [])
        rw [List.append_nil]
        exact hda.up (hide_mono (grow_mono e4))
      rintro k n H5 ⟨rfl, hk, eH5, ew, acc2, a5, hd5⟩
      have e5' : Ex H H5 := e12.trans eH5
      have ewd : Ex (grow (hide Dl (grow G H H3)) H3 H4) H5 := ew.trans (hide_ex.trans grow_ex)
      by_cases hlt1 : k < (ds1 d).length
      · refine .inr ⟨hJ1.go k H5 ewd hlt1, fun H5 => (ds1 d).length - (k + 1) = (ds1 d).length - (k + 1) ∧ k + 1 ≤ (ds1 d).length ∧ Ex H2 H5 ∧ Ex (grow (hide Dl (grow G H H3)) H3 H4) (hide Dl (grow G H H5)) ∧ ∃ acc2, H5 Dl = some (.lst acc2) ∧ DpAll K (hide Dl (grow G H H5)) acc2 ((ds.take i).flatMap (fun d => (ds1 d).map (g d)) ++ ((ds1 d).take (k + 1)).map (g d)), fun H6 w => ⟨(ds1 d).length - (k + 1), by omega, w⟩, fun x1 H6 y1 => ?_⟩
        obtain ⟨rfl, d1, hdk, hx1⟩ := hJ1.yld k x1 H5 H6 ewd hlt1 y1
        have hm1 : d1 ∈ ds1 d := List.mem_of_getElem? hdk
        have hx2 : Dp K (hide Dl (grow G H H6)) x d := hx.up (ex_hide (grow_mono eH5) (grow_none hD))
        have S3 := (((((S.within hn e5' a5).wipe vs).putDat j hx2).wipe vs1).putDat j1 (hx1.up ew))
        refine ⟨hj1 _ (some x1), ?_⟩
        rw [tYes_at]
        rw [if_pos rfl]
        refine (he d hm d1 hm1).1 S3 (Ex.refl _) fun z H7 e7 hz' => ?_
        have a7 : H7 Dl = some (.lst acc2) := e7 _ _ a5
        have lacc : acc2.length < 100000 := by
          rw [dpa_len hd5, List.length_append, List.length_map, List.length_take]
          have : min k (ds1 d).length ≤ (ds1 d).length := Nat.min_le_right _ _
          omega
        refine ⟨acc2, a7, sz_lt lacc, rfl, hlt1, Ex.mut (eH5.trans e7) hD, ?_, acc2 ++ [z], upd_same, ?_⟩
        · rw [hide_upd]
          exact ew.trans (hide_mono (grow_mono e7))
        · rw [hide_upd, List.take_add_one, hdk, List.map_append, ← List.append_assoc]
          exact dpa_snoc (hd5.up (hide_mono (grow_mono e7))) (hz'.up (within_ex e5' a5))
      · have e : k = (ds1 d).length := by omega
        subst e
        refine .inl ⟨hJ1.stop H5 ewd, rfl, hlt, eH5, acc2, a5, ?_⟩
        rw [tk]
        rw [List.take_length] at hd5
        exact hd5
    · have e : i = ds.length := by omega
      subst e
      refine .inl ⟨hJ.stop H' (grow_ex.trans eH), q Dl acc H' (fresh_back e2 hD) (e2.trans eH) ha ?_⟩
      rw [List.take_length] at hda
      exact hda
end

/-! ### a def -/
def startE (N : List Str) (ds : List PyData) : Es := ds.map .dat ++ List.replicate (N.length - ds.length) .no
section
variable {P : Program} {w : World} {K : PySem.W.Frag} {mg : Str → Option Value} {base : Heap}
theorem se_start {N : List Str} {vs : List V} {ds : List PyData} {H : Hp} (h : DpAll K H vs ds) : SE K H H (L2.start N vs) (startE N ds) := by
  have hl := dpa_len h
  have key : ∀ (i : Nat) (en : Ent), (startE N ds)[i]? = some en → (∃ d, en = .dat d ∧ ds[i]? = some d) ∨ en = .no := fun i en hi => by
    unfold startE at hi
    by_cases hlt : i < ds.length
    · rw [List.getElem?_append_left (by rw [List.length_map]; exact hlt), List.getElem?_map, List.getElem?_eq_getElem hlt] at hi
      cases hi
      exact .inl ⟨_, rfl, List.getElem?_eq_getElem hlt⟩
    · rw [List.getElem?_append_right (by rw [List.length_map]; omega)] at hi
      have := List.mem_of_getElem? hi
      exact .inr (List.eq_of_mem_replicate this)
  refine ⟨Ex.refl _, ?_, fun i d hi => ?_, fun i d hi => ?_, fun i j d d' p hi => ?_, fun i lo hi hh => ?_, fun a o h1 h2 => ?_⟩
  · unfold startE L2.start
    rw [List.length_append, List.length_append, List.length_map, List.length_map, List.length_replicate, List.length_replicate, hl]
  · rcases key i _ hi with ⟨d', e, q⟩ | e
    · cases e
      obtain ⟨v, hv, hd⟩ := dpa_at h q
      refine ⟨v, ?_, hd⟩
      have hlt : i < vs.length := (List.getElem?_eq_some_iff.mp hv).1
      unfold L2.start
      rw [List.getElem?_append_left (by rw [List.length_map]; exact hlt), List.getElem?_map, hv]
      rfl
    · cases e
  · rcases key i _ hi with ⟨d', e, q⟩ | e <;> cases e
  · rcases key i _ hi with ⟨d', e, q⟩ | e <;> cases e
  · rcases key i _ hh with ⟨d', e, q⟩ | e <;> cases e
  · rw [h1] at h2
    cases h2
/-- a def that gives data -/
theorem fn_val {α : Type} {x qual : Str} {st : Stmt} {f : Addr} {fd : FuncData} {N ps : List Str} {k : Nat} {args : α → List PyData} {pre : α → Prop} {res : α → PyData} (F : Fun K x qual st f fd) (S : FnScope N ps (defScope st)) (hl : ∀ a, (args a).length = ps.length)
    (h : ∀ (cdv : Value) (A : Around) (outer : List Env) (s : Shared) (H : Hp) (E : XK), Room k (A.deeper (envOfC qual (defScope st) s.heap.objs.size f cdv)) →
      ∃ t, PSs (cxOf CX0 P w K mg base N qual (defScope st) f cdv A outer s H E).nox (defBody st) t ∧ ∀ a, pre a → Ws K t (startE N (args a)) { nx := fun _ => res a = .none, rt := fun r => r = .val (res a) ∨ ∃ ds, res a = .list ds ∧ r = .fresh ds }) :
    FnOk P w K mg base CX0 (k + 1) f fd ps (spF K args pre res) := by
  refine F.ok S (fun vs H Q E ⟨a, hd, _⟩ => by rw [dpa_len hd, hl]) (fun cdv A outer s H vs Q E hr hsp => ?_)
  obtain ⟨a, hd, hp, q⟩ := hsp
  obtain ⟨t, ht, hw⟩ := h cdv A outer s H E hr
  refine ⟨t, ht, (hw a hp).1 (se_start hd) ⟨fun G' H' σ' es' e eG S' => ?_, fun _ _ _ _ z => z.elim, fun _ _ _ _ z => z.elim, fun v H' r hr2 eG o => ?_⟩⟩
  · exact q .non H' (eG.trans S'.ex) (by rw [show res a = .none from e]; exact .non)
  · rcases hr2 with rfl | ⟨ds, e, rfl⟩
    · exact q v H' eG o
    · obtain ⟨p, xs, rfl, _, hp2, hx⟩ := o
      exact q _ H' eG (by rw [e]; exact .lst (.inl (.inl hp2)) (hx.up hide_ex))
/-- a def that gives a new list -/
theorem fn_lst {α : Type} {x qual : Str} {st : Stmt} {f : Addr} {fd : FuncData} {N ps : List Str} {k : Nat} {args : α → List PyData} {pre : α → Prop} {res : α → List PyData} (F : Fun K x qual st f fd) (S : FnScope N ps (defScope st)) (hl : ∀ a, (args a).length = ps.length)
    (h : ∀ (cdv : Value) (A : Around) (outer : List Env) (s : Shared) (H : Hp) (E : XK), Room k (A.deeper (envOfC qual (defScope st) s.heap.objs.size f cdv)) →
      ∃ t, PSs (cxOf CX0 P w K mg base N qual (defScope st) f cdv A outer s H E).nox (defBody st) t ∧ ∀ a, pre a → Ws K t (startE N (args a)) { rt := fun r => r = .fresh (res a) }) :
    FnOk P w K mg base CX0 (k + 1) f fd ps (spL K args pre res) := by
  refine F.ok S (fun vs H Q E ⟨a, hd, _⟩ => by rw [dpa_len hd, hl]) (fun cdv A outer s H vs Q E hr hsp => ?_)
  obtain ⟨a, hd, hp, q⟩ := hsp
  obtain ⟨t, ht, hw⟩ := h cdv A outer s H E hr
  refine ⟨t, ht, (hw a hp).1 (se_start hd) ⟨fun _ _ _ _ z => z.elim, fun _ _ _ _ z => z.elim, fun _ _ _ _ z => z.elim, fun v H' r hr2 eG o => ?_⟩⟩
  have e : r = .fresh (res a) := hr2
  subst e
  obtain ⟨p, xs, rfl, n, hp2, hx⟩ := o
  exact q p xs H' n eG hp2 hx
/-- a promise for fewer arguments -/
theorem fn_imp {α β : Type} {f : Addr} {fd : FuncData} {ps : List Str} {k : Nat} {args : α → List PyData} {pre : α → Prop} {res : α → PyData} {args' : β → List PyData} {pre' : β → Prop} {res' : β → PyData} (F : FnOk P w K mg base CX0 k f fd ps (spF K args pre res))
    (h : ∀ b, pre' b → ∃ a, args a = args' b ∧ pre a ∧ res a = res' b) : FnOk P w K mg base CX0 k f fd ps (spF K args' pre' res') :=
  F.imp fun vs H Q E ⟨b, hd, hp, q⟩ => by
    obtain ⟨a, e1, e2, e3⟩ := h b hp
    exact ⟨a, by rw [e1]; exact hd, e2, fun v H2 e hv => q v H2 e (by rw [← e3]; exact hv)⟩
end
theorem dpa_mkInts {K : PySem.W.Frag} {H : Hp} : ∀ {ns : List Int}, DpAll K H (ns.map V.int) (ns.map PyData.int)
  | [] => .nil
  | n :: ns => .cons (.int n) dpa_mkInts
/-! isinstance of plain kinds -/
theorem kb_int_int : kitB "int" "int" = some true := by decide +kernel
theorem kb_int_bool : kitB "int" "bool" = some false := by decide +kernel
theorem kb_int_str : kitB "int" "str" = some false := by decide +kernel
theorem kb_int_list : kitB "int" "list" = some false := by decide +kernel
theorem kb_int_tuple : kitB "int" "tuple" = some false := by decide +kernel
theorem kb_bool_int : kitB "bool" "int" = some true := by decide +kernel
theorem kb_bool_bool : kitB "bool" "bool" = some true := by decide +kernel
theorem kb_bool_str : kitB "bool" "str" = some false := by decide +kernel
theorem kb_bool_list : kitB "bool" "list" = some false := by decide +kernel
theorem kb_bool_tuple : kitB "bool" "tuple" = some false := by decide +kernel
theorem kb_str_int : kitB "str" "int" = some false := by decide +kernel
theorem kb_str_bool : kitB "str" "bool" = some false := by decide +kernel
theorem kb_str_str : kitB "str" "str" = some true := by decide +kernel
theorem kb_str_list : kitB "str" "list" = some false := by decide +kernel
theorem kb_str_tuple : kitB "str" "tuple" = some false := by decide +kernel
theorem kb_list_int : kitB "list" "int" = some false := by decide +kernel
theorem kb_list_bool : kitB "list" "bool" = some false := by decide +kernel
theorem kb_list_str : kitB "list" "str" = some false := by decide +kernel
theorem kb_list_list : kitB "list" "list" = some true := by decide +kernel
theorem kb_list_tuple : kitB "list" "tuple" = some false := by decide +kernel
theorem kb_tuple_int : kitB "tuple" "int" = some false := by decide +kernel
theorem kb_tuple_bool : kitB "tuple" "bool" = some false := by decide +kernel
theorem kb_tuple_str : kitB "tuple" "str" = some false := by decide +kernel
theorem kb_tuple_list : kitB "tuple" "list" = some false := by decide +kernel
theorem kb_tuple_tuple : kitB "tuple" "tuple" = some true := by decide +kernel
theorem kb_NoneType_int : kitB "NoneType" "int" = some false := by decide +kernel
theorem kb_NoneType_bool : kitB "NoneType" "bool" = some false := by decide +kernel
theorem kb_NoneType_str : kitB "NoneType" "str" = some false := by decide +kernel
theorem kb_NoneType_list : kitB "NoneType" "list" = some false := by decide +kernel
theorem kb_NoneType_tuple : kitB "NoneType" "tuple" = some false := by decide +kernel
theorem ev_slTb {K : PySem.W.Frag} {es : Es} {ta : TE} {ds : List PyData} {tl th : TO} {lo hi : Option Int} (ha : EvE K ta es (.tuple ds)) (hl : EvO K tl es lo) (hh : EvO K th es hi) (hn : (HT.sIx ds.length 0 lo == 0 && HT.sIx ds.length ds.length hi == ds.length) = false) :
    EvE K (tSl (rSlT K) ta tl th) es (.tuple (cutD ds lo hi)) := ev_slT ha hl hh fun z => by
  rw [beq_iff_eq.mpr z.1, beq_iff_eq.mpr z.2] at hn
  cases hn
/-! items at written places -/
theorem at0 {α : Type} {d : α} {ds : List α} : atI (d :: ds) 0 = some d := atI_nat (j := 0) rfl
theorem at1 {α : Type} {d e : α} {ds : List α} : atI (d :: e :: ds) 1 = some e := atI_nat (j := 1) rfl
theorem at2 {α : Type} {a b c : α} {ds : List α} : atI (a :: b :: c :: ds) 2 = some c := atI_nat (j := 2) rfl
theorem at3 {α : Type} {a b c d : α} {ds : List α} : atI (a :: b :: c :: d :: ds) 3 = some d := atI_nat (j := 3) rfl
theorem at4 {α : Type} {a b c d e : α} {ds : List α} : atI (a :: b :: c :: d :: e :: ds) 4 = some e := atI_nat (j := 4) rfl
theorem immAll_iff : ∀ {ds : List PyData}, (∀ d ∈ ds, imm d = true) → immAll ds = true
  | [], _ => rfl
  | d :: ds, h => by
    unfold immAll
    rw [h d List.mem_cons_self, immAll_iff fun x hx => h x (List.mem_cons_of_mem _ hx)]
    rfl
theorem wipe_get (σ : L2.St) (i : Nat) : ∀ vs : List Nat, (wipe σ vs)[i]? = if i ∈ vs then (if i < σ.length then some none else none) else σ[i]?
  | [] => by rw [if_neg (by simp)]; rfl
  | v :: vs => by
    show ((wipe σ vs).set v none)[i]? = _
    by_cases e : i = v
    · subst e
      rw [if_pos (by simp), List.getElem?_set, if_pos rfl, wipe_length]
    · rw [List.getElem?_set_ne (Ne.symm e), wipe_get σ i vs]
      by_cases h : i ∈ vs
      · rw [if_pos h, if_pos (List.mem_cons_of_mem _ h)]
      · rw [if_neg h, if_neg (by simp [e, h])]
theorem wipe_set {j : Nat} {vs : List Nat} (hj : j ∈ vs) (σ : L2.St) (x : Option V) : wipe ((wipe σ vs).set j x) vs = wipe σ vs := by
  refine List.ext_getElem? fun i => ?_
  rw [wipe_get, wipe_get, List.length_set, wipe_length]
  by_cases h : i ∈ vs
  · rw [if_pos h, if_pos h]
  · rw [if_neg h, if_neg h, List.getElem?_set_ne (show j ≠ i from fun e => h (by rw [← e]; exact hj)), wipe_get, if_neg h]
end Pu

namespace K01
open PySem PySem.Spec L2 Evl Pu
open PyProof.Rows (envOfC)
def topS (i : Nat) : Stmt := PySem.Challenge.pw_rulesheet_k01_areas.main.body.getD i (.Pass ⟨0, 0, 0, 0⟩)
abbrev s_area : Stmt := topS 1
theorem sc_area : FnScope ["one", "two", "rows", "columns", "row", "column"] ["one", "two"] (defScope s_area) := ⟨rfl, rfl, rfl, by decide +kernel, rfl, by decide +kernel, by decide +kernel⟩
abbrev s__law_whole : Stmt := topS 3
theorem sc__law_whole : FnScope ["_law_found"] ["_law_found"] (defScope s__law_whole) := ⟨rfl, rfl, rfl, by decide +kernel, rfl, by decide +kernel, by decide +kernel⟩
abbrev s__law_cell_at : Stmt := topS 4
theorem sc__law_cell_at : FnScope ["_law_script", "_law_k"] ["_law_script", "_law_k"] (defScope s__law_cell_at) := ⟨rfl, rfl, rfl, by decide +kernel, rfl, by decide +kernel, by decide +kernel⟩
abbrev s__law_places : Stmt := topS 5
theorem sc__law_places : FnScope ["_law_found", "_law_due", "_law_k", "_law_one"] ["_law_found", "_law_due"] (defScope s__law_places) := ⟨rfl, rfl, rfl, by decide +kernel, rfl, by decide +kernel, by decide +kernel⟩
abbrev s_law : Stmt := topS 6
theorem sc_law : FnScope ["_law_script", "_law_rows", "_law_columns", "_law_far", "_law_down", "_law_right", "_law_stays", "_law_corners", "_law_k", "_law_top", "_law_left", "_law_wide", "_law_many", "_law_due", "_law_corner"] ["_law_script"] (defScope s_law) := ⟨rfl, rfl, rfl, by decide +kernel, rfl, by decide +kernel, by decide +kernel⟩
/-- what the top has left -/
structure Top (K : PySem.W.Frag) (mg : Str → Option Value) where
  a_area : Addr
  d_area : FuncData
  F_area : Fun K "area" "area" s_area a_area d_area
  b_area : Binds K d_area ["one", "two"] []
  m_area : mg "area" = some (.ref a_area)
  a__law_whole : Addr
  d__law_whole : FuncData
  F__law_whole : Fun K "_law_whole" "_law_whole" s__law_whole a__law_whole d__law_whole
  b__law_whole : Binds K d__law_whole ["_law_found"] []
  m__law_whole : mg "_law_whole" = some (.ref a__law_whole)
  a__law_cell_at : Addr
  d__law_cell_at : FuncData
  F__law_cell_at : Fun K "_law_cell_at" "_law_cell_at" s__law_cell_at a__law_cell_at d__law_cell_at
  b__law_cell_at : Binds K d__law_cell_at ["_law_script", "_law_k"] []
  m__law_cell_at : mg "_law_cell_at" = some (.ref a__law_cell_at)
  a__law_places : Addr
  d__law_places : FuncData
  F__law_places : Fun K "_law_places" "_law_places" s__law_places a__law_places d__law_places
  b__law_places : Binds K d__law_places ["_law_found", "_law_due"] []
  m__law_places : mg "_law_places" = some (.ref a__law_places)
  a_law : Addr
  d_law : FuncData
  F_law : Fun K "law" "law" s_law a_law d_law
  b_law : Binds K d_law ["_law_script"] []
  m_law : mg "law" = some (.ref a_law)
  z_bool : mg "bool" = none
  z_int : mg "int" = none
  z_isinstance : mg "isinstance" = none
  z_len : mg "len" = none
  z_list : mg "list" = none
  z_max : mg "max" = none
  z_min : mg "min" = none
  z_range : mg "range" = none
  z_tuple : mg "tuple" = none
section
variable {P : Program} {w : World} {K : PySem.W.Frag} {mg : Str → Option Value} {base : Heap}
/-- area -/
def B_area (T : Top K mg) {k : Nat} {cdv : Value} {A : Around} {outer : List Env} {s : Shared} {H : Hp} {E : XK} (hr : Room k (A.deeper (envOfC "area" (defScope s_area) s.heap.objs.size T.a_area cdv))) :=
  (show PSs (cxOf CX0 P w K mg base ["one", "two", "rows", "columns", "row", "column"] "area" (defScope s_area) T.a_area cdv A outer s H E).nox (defBody s_area) _ from
    (pss_cons (ps_set (i := 2) sc_area.nd rfl (Or.inl rfl) (pe_callTy cr_range2 (by rfl) T.z_range (by decide +kernel) (pa_cons (pe_callB (call_min2 rfl) (by rfl) T.z_min (by decide +kernel) (pa_cons (pe_ix ix_tup (pv 0) pe_int (fun _ _ => rfl)) (pa_cons (pe_ix ix_tup (pv 1) pe_int (fun _ _ => rfl)) pa_nil))) (pa_cons (pe_op op_add (pe_callB (call_max2 rfl) (by rfl) T.z_max (by decide +kernel) (pa_cons (pe_ix ix_tup (pv 0) pe_int (fun _ _ => rfl)) (pa_cons (pe_ix ix_tup (pv 1) pe_int (fun _ _ => rfl)) pa_nil))) pe_int) pa_nil))))
      (pss_cons (ps_set (i := 3) sc_area.nd rfl (Or.inr rfl) (pe_callTy cr_range2 (by rfl) T.z_range (by decide +kernel) (pa_cons (pe_callB (call_min2 rfl) (by rfl) T.z_min (by decide +kernel) (pa_cons (pe_ix ix_tup (pv 0) pe_int (fun _ _ => rfl)) (pa_cons (pe_ix ix_tup (pv 1) pe_int (fun _ _ => rfl)) pa_nil))) (pa_cons (pe_op op_add (pe_callB (call_max2 rfl) (by rfl) T.z_max (by decide +kernel) (pa_cons (pe_ix ix_tup (pv 0) pe_int (fun _ _ => rfl)) (pa_cons (pe_ix ix_tup (pv 1) pe_int (fun _ _ => rfl)) pa_nil))) pe_int) pa_nil))))
      (pss_one (ps_ret (pe_lc2 (own := [("row", 4), ("column", 5)]) (vs1 := [5]) (g := gName 4) (g1 := gName 5) (tt := tYes) (tt1 := tYes) rfl sc_area.nd (pi_rngO (pv 2)) (blkOk_by (own := [("row", 4), ("column", 5)]) (N := ["one", "two", "rows", "columns", "row", "column"]) (sc := defScope s_area) (by decide +kernel)) (by decide) (fun _ _ _ _ _ => (pg_name (i := 4) sc_area.nd rfl (Or.inl rfl))) (fun _ _ _ _ _ => pts_nil) (fun _ _ _ _ _ => (pi_rngO (pv 3))) (fun _ _ _ _ _ => (pg_name (i := 5) sc_area.nd rfl (Or.inl rfl))) (fun _ _ _ _ _ => pts_nil) (fun _ _ _ _ _ => (pe_tup (pa_cons (pv 4) (pa_cons (pv 5) pa_nil))))))))))
/-- _law_whole -/
def B__law_whole (T : Top K mg) {k : Nat} {cdv : Value} {A : Around} {outer : List Env} {s : Shared} {H : Hp} {E : XK} (hr : Room k (A.deeper (envOfC "_law_whole" (defScope s__law_whole) s.heap.objs.size T.a__law_whole cdv))) :=
  (show PSs (cxOf CX0 P w K mg base ["_law_found"] "_law_whole" (defScope s__law_whole) T.a__law_whole cdv A outer s H E).nox (defBody s__law_whole) _ from
    (pss_one (ps_ret (pe_and (pe_callB call_isi (by rfl) T.z_isinstance (by decide +kernel) (pa_cons (pv 0) (pa_cons (pe_bltn (v := V.ty "int") (u := Value.type "int") (by rfl) T.z_int (by decide +kernel) rfl) pa_nil))) (pe_one (pe_not (pe_callB call_isi (by rfl) T.z_isinstance (by decide +kernel) (pa_cons (pv 0) (pa_cons (pe_bltn (v := V.ty "bool") (u := Value.type "bool") (by rfl) T.z_bool (by decide +kernel) rfl) pa_nil)))))))))
/-- _law_cell_at -/
def B__law_cell_at (T : Top K mg) {k : Nat} {cdv : Value} {A : Around} {outer : List Env} {s : Shared} {H : Hp} {E : XK} (hr : Room k (A.deeper (envOfC "_law_cell_at" (defScope s__law_cell_at) s.heap.objs.size T.a__law_cell_at cdv))) :=
  (show PSs (cxOf CX0 P w K mg base ["_law_script", "_law_k"] "_law_cell_at" (defScope s__law_cell_at) T.a__law_cell_at cdv A outer s H E).nox (defBody s__law_cell_at) _ from
    (pss_cons (ps_if (pt_cmpR op_lt (pv 1) (pe_callB call_len_seq (by rfl) T.z_len (by decide +kernel) (pa_cons (pv 0) pa_nil)) (nomark _)) (pss_one (ps_ret (pe_ix ix_list (pv 0) (pv 1) (fun _ _ => rfl)))) pss_nil)
      (pss_one (ps_ret pe_int))))
/-- _law_places -/
def B__law_places (T : Top K mg) {j__law_whole : Nat} {sp__law_whole : Sp} {k : Nat} (G__law_whole : FnOk P w K mg base CX0 j__law_whole T.a__law_whole T.d__law_whole ["_law_found"] sp__law_whole) (h__law_whole : j__law_whole ≤ k) {cdv : Value} {A : Around} {outer : List Env} {s : Shared} {H : Hp} {E : XK} (hr : Room k (A.deeper (envOfC "_law_places" (defScope s__law_places) s.heap.objs.size T.a__law_places cdv))) :=
  (show PSs (cxOf CX0 P w K mg base ["_law_found", "_law_due", "_law_k", "_law_one"] "_law_places" (defScope s__law_places) T.a__law_places cdv A outer s H E).nox (defBody s__law_places) _ from
    (pss_cons (ps_if (PW.pt (pw_or (pt_not (pt_val (pe_callB call_isi (by rfl) T.z_isinstance (by decide +kernel) (pa_cons (pv 0) (pa_cons (pe_bltn (v := V.ty "list") (u := Value.type "list") (by rfl) T.z_list (by decide +kernel) rfl) pa_nil))))) (pw_or1 (pt_cmpR op_ne (pe_callB call_len_seq (by rfl) T.z_len (by decide +kernel) (pa_cons (pv 0) pa_nil)) (pe_callB call_len_seq (by rfl) T.z_len (by decide +kernel) (pa_cons (pv 1) pa_nil)) (nomark _))))) (pss_one (ps_ret pe_bl)) pss_nil)
      (pss_cons (ps_for PassesOwn.never rfl (pi_range1 rfl T.z_range (pa_cons (pe_callB call_len_seq (by rfl) T.z_len (by decide +kernel) (pa_cons (pv 1) pa_nil)) pa_nil)) (pg_name (i := 2) sc__law_places.nd rfl (Or.inl rfl)) (pss_cons (ps_set (i := 3) sc__law_places.nd rfl (Or.inl rfl) (pe_ix ix_list (pv 0) (pv 2) (fun _ _ => rfl)))
      (pss_cons (ps_if (PW.pt (pw_or (pt_not (pt_val (pe_callB call_isi (by rfl) T.z_isinstance (by decide +kernel) (pa_cons (pv 3) (pa_cons (pe_bltn (v := V.ty "tuple") (u := Value.type "tuple") (by rfl) T.z_tuple (by decide +kernel) rfl) pa_nil))))) (pw_or1 (pt_cmpR op_ne (pe_callB call_len_seq (by rfl) T.z_len (by decide +kernel) (pa_cons (pv 3) pa_nil)) pe_int (nomark _))))) (pss_one (ps_ret pe_bl)) pss_nil)
      (pss_one (ps_if (PW.pt (pw_or (pt_not (pt_val (pe_call G__law_whole (hr.mono (by omega)) (by rfl) T.m__law_whole T.F__law_whole.kp T.b__law_whole .nil pass0 (pa_cons (pe_ix ix_tup (pv 3) pe_int (fun _ _ => rfl)) pa_nil)))) (pw_or (pt_not (pt_val (pe_call G__law_whole (hr.mono (by omega)) (by rfl) T.m__law_whole T.F__law_whole.kp T.b__law_whole .nil pass0 (pa_cons (pe_ix ix_tup (pv 3) pe_int (fun _ _ => rfl)) pa_nil)))) (pw_or1 (pt_cmpR (op_neD hr.units) (pv 3) (pe_ix ix_list (pv 1) (pv 2) (fun _ _ => rfl)) (nomark _)))))) (pss_one (ps_ret pe_bl)) pss_nil)))))
      (pss_one (ps_ret pe_bl)))))
/-- law -/
def B_law (T : Top K mg) {j__law_cell_at : Nat} {sp__law_cell_at : Sp} {j__law_places : Nat} {sp__law_places : Sp} {j_area : Nat} {sp_area : Sp} {k : Nat} (G__law_cell_at : FnOk P w K mg base CX0 j__law_cell_at T.a__law_cell_at T.d__law_cell_at ["_law_script", "_law_k"] sp__law_cell_at) (h__law_cell_at : j__law_cell_at ≤ k) (G__law_places : FnOk P w K mg base CX0 j__law_places T.a__law_places T.d__law_places ["_law_found", "_law_due"] sp__law_places) (h__law_places : j__law_places ≤ k) (G_area : FnOk P w K mg base CX0 j_area T.a_area T.d_area ["one", "two"] sp_area) (h_area : j_area ≤ k) {cdv : Value} {A : Around} {outer : List Env} {s : Shared} {H : Hp} {E : XK} (hr : Room k (A.deeper (envOfC "law" (defScope s_law) s.heap.objs.size T.a_law cdv))) :=
  (show PSs (cxOf CX0 P w K mg base ["_law_script", "_law_rows", "_law_columns", "_law_far", "_law_down", "_law_right", "_law_stays", "_law_corners", "_law_k", "_law_top", "_law_left", "_law_wide", "_law_many", "_law_due", "_law_corner"] "law" (defScope s_law) T.a_law cdv A outer s H E).nox (defBody s_law) _ from
    (pss_cons (ps_set (i := 1) sc_law.nd rfl (Or.inl rfl) (pe_lst (pa_cons (pe_op op_mod (pe_call G__law_cell_at (hr.mono (by omega)) (by rfl) T.m__law_cell_at T.F__law_cell_at.kp T.b__law_cell_at .nil pass0 (pa_cons (pv 0) (pa_cons pe_int pa_nil))) pe_int) (pa_cons (pe_op op_mod (pe_call G__law_cell_at (hr.mono (by omega)) (by rfl) T.m__law_cell_at T.F__law_cell_at.kp T.b__law_cell_at .nil pass0 (pa_cons (pv 0) (pa_cons pe_int pa_nil))) pe_int) pa_nil))))
      (pss_cons (ps_set (i := 2) sc_law.nd rfl (Or.inl rfl) (pe_lst (pa_cons (pe_op op_mod (pe_call G__law_cell_at (hr.mono (by omega)) (by rfl) T.m__law_cell_at T.F__law_cell_at.kp T.b__law_cell_at .nil pass0 (pa_cons (pv 0) (pa_cons pe_int pa_nil))) pe_int) (pa_cons (pe_op op_mod (pe_call G__law_cell_at (hr.mono (by omega)) (by rfl) T.m__law_cell_at T.F__law_cell_at.kp T.b__law_cell_at .nil pass0 (pa_cons (pv 0) (pa_cons pe_int pa_nil))) pe_int) pa_nil))))
      (pss_cons (ps_set (i := 3) sc_law.nd rfl (Or.inl rfl) (pe_ix ix_list (pe_lst (pa_cons pe_int (pa_cons pe_int (pa_cons pe_int (pa_cons (pe_op op_pow pe_int pe_int) (pa_cons (pe_op op_pow pe_int pe_int) (pa_cons (pe_un un_neg pe_int) pa_nil))))))) (pe_op op_mod (pe_call G__law_cell_at (hr.mono (by omega)) (by rfl) T.m__law_cell_at T.F__law_cell_at.kp T.b__law_cell_at .nil pass0 (pa_cons (pv 0) (pa_cons pe_int pa_nil))) pe_int) (fun _ _ => rfl)))
      (pss_cons (ps_set (i := 4) sc_law.nd rfl (Or.inl rfl) (pe_op op_mul (pv 3) (pe_op op_mod (pe_op op_fdiv (pe_call G__law_cell_at (hr.mono (by omega)) (by rfl) T.m__law_cell_at T.F__law_cell_at.kp T.b__law_cell_at .nil pass0 (pa_cons (pv 0) (pa_cons pe_int pa_nil))) pe_int) pe_int)))
      (pss_cons (ps_set (i := 5) sc_law.nd rfl (Or.inl rfl) (pe_op op_mul (pv 3) (pe_op op_mod (pe_op op_mod (pe_op op_fdiv (pe_call G__law_cell_at (hr.mono (by omega)) (by rfl) T.m__law_cell_at T.F__law_cell_at.kp T.b__law_cell_at .nil pass0 (pa_cons (pv 0) (pa_cons pe_int pa_nil))) pe_int) pe_int) pe_int)))
      (pss_cons (ps_set (i := 6) sc_law.nd rfl (Or.inl rfl) (pe_call G__law_cell_at (hr.mono (by omega)) (by rfl) T.m__law_cell_at T.F__law_cell_at.kp T.b__law_cell_at .nil pass0 (pa_cons (pv 0) (pa_cons pe_int pa_nil))))
      (pss_cons (ps_set (i := 7) sc_law.nd rfl (Or.inl rfl) (pe_lst pa_nil))
      (pss_cons (ps_for PassesOwn.never rfl (pi_range1 rfl T.z_range (pa_cons pe_int pa_nil)) (pg_name (i := 8) sc_law.nd rfl (Or.inl rfl)) (pss_cons (ps_set (i := 14) sc_law.nd rfl (Or.inl rfl) (pe_tup (pa_cons (pe_op op_add (pe_ix ix_list (pv 1) (pv 8) (fun _ _ => rfl)) (pv 4)) (pa_cons (pe_op op_add (pe_ix ix_list (pv 2) (pv 8) (fun _ _ => rfl)) (pv 5)) (pa_cons (pe_cmpR op_eq (pe_op op_mod (pe_op op_fdiv (pv 6) (pe_op op_add pe_int (pe_op op_mul pe_int (pv 8)))) pe_int) pe_int (nomark _)) (pa_cons (pe_cmpR op_eq (pe_op op_mod (pe_op op_fdiv (pv 6) (pe_op op_add pe_int (pe_op op_mul pe_int (pv 8)))) pe_int) pe_int (nomark _)) pa_nil))))))
      (pss_cons (ps_if (pt_cmpR op_eq (pe_op op_mod (pe_op op_fdiv (pv 6) pe_int) pe_int) pe_int (nomark _)) (pss_one (ps_set (i := 14) sc_law.nd rfl (Or.inl rfl) (pe_slice sl_tup (pv 14) po_none (po_some pe_int)))) pss_nil)
      (pss_one (ps_expr (pe_bm PySem.F.plainAttrs_list PySem.F.slot_list_append PySem.F.type_list_append mt_append (pv 7) (pa_cons (pv 14) pa_nil)))))))
      (pss_cons (ps_set (i := 9) sc_law.nd rfl (Or.inr rfl) (pe_op op_add (pe_callB (cr_min rfl) (by rfl) T.z_min (by decide +kernel) (pa_cons (pv 1) pa_nil)) (pv 4)))
      (pss_cons (ps_set (i := 10) sc_law.nd rfl (Or.inr rfl) (pe_op op_add (pe_callB (cr_min rfl) (by rfl) T.z_min (by decide +kernel) (pa_cons (pv 2) pa_nil)) (pv 5)))
      (pss_cons (ps_set (i := 11) sc_law.nd rfl (Or.inr rfl) (pe_op op_add (pe_op op_sub (pe_callB (cr_max rfl) (by rfl) T.z_max (by decide +kernel) (pa_cons (pv 2) pa_nil)) (pe_callB (cr_min rfl) (by rfl) T.z_min (by decide +kernel) (pa_cons (pv 2) pa_nil))) pe_int))
      (pss_cons (ps_set (i := 12) sc_law.nd rfl (Or.inl rfl) (pe_op op_mul (pv 11) (pe_op op_add (pe_op op_sub (pe_callB (cr_max rfl) (by rfl) T.z_max (by decide +kernel) (pa_cons (pv 1) pa_nil)) (pe_callB (cr_min rfl) (by rfl) T.z_min (by decide +kernel) (pa_cons (pv 1) pa_nil))) pe_int)))
      (pss_cons (ps_setLc (i := 13) (own := [("_law_k", 8)]) (g := gName 8) (tt := tYes) rfl sc_law.nd rfl rfl (sw_true rfl rfl rfl (by decide +kernel)) (pi_range1 rfl T.z_range (pa_cons (pv 12) pa_nil)) (blkOk_by (own := [("_law_k", 8)]) (N := ["_law_script", "_law_rows", "_law_columns", "_law_far", "_law_down", "_law_right", "_law_stays", "_law_corners", "_law_k", "_law_top", "_law_left", "_law_wide", "_law_many", "_law_due", "_law_corner"]) (sc := defScope s_law) (by decide +kernel)) (fun _ _ _ _ _ => (pg_name (i := 8) sc_law.nd rfl (Or.inl rfl))) (fun _ _ _ _ _ => pts_nil) (fun _ _ _ _ _ => (pe_tup (pa_cons (pe_op op_add (pv 9) (pe_op op_fdiv (pv 8) (pv 11))) (pa_cons (pe_op op_add (pv 10) (pe_op op_mod (pv 8) (pv 11))) pa_nil)))))
      (pss_cons (ps_if (pt_not (pt_val (pe_call G__law_places (hr.mono (by omega)) (by rfl) T.m__law_places T.F__law_places.kp T.b__law_places .nil pass0 (pa_cons (pe_call G_area (hr.mono (by omega)) (by rfl) T.m_area T.F_area.kp T.b_area .nil pass0 (pa_cons (pe_ix ix_list (pv 7) pe_int (fun _ _ => rfl)) (pa_cons (pe_ix ix_list (pv 7) pe_int (fun _ _ => rfl)) pa_nil))) (pa_cons (pv 13) pa_nil))))) (pss_one (ps_ret pe_bl)) pss_nil)
      (pss_one (ps_ret (pe_call G__law_places (hr.mono (by omega)) (by rfl) T.m__law_places T.F__law_places.kp T.b__law_places .nil pass0 (pa_cons (pe_call G_area (hr.mono (by omega)) (by rfl) T.m_area T.F_area.kp T.b_area .nil pass0 (pa_cons (pe_ix ix_list (pv 7) pe_int (fun _ _ => rfl)) (pa_cons (pe_ix ix_list (pv 7) pe_int (fun _ _ => rfl)) pa_nil))) (pa_cons (pv 13) pa_nil))))))))))))))))))))
end
end K01

namespace K01
open PySem PySem.Spec L2 Pu
open Evl (Ex rLenS rMax2 rListS)
open PyProof.Rows (envOfC)
/-! own words of the walk -/
local macro_rules | `(tactic| walk_at "side") => `(tactic| first
  | rfl | exact at0 | exact at1 | exact at2 | exact at3 | exact at4 | assumption | decide | omega | exact ⟨by decide, by decide⟩ | exact ⟨by omega, by omega⟩ | exact Or.inr ⟨by omega, by omega⟩ | exact Or.inl ⟨by omega, by omega⟩ | exact Or.inr ⟨by decide, by decide⟩)
local macro_rules | `(tactic| walk_at "ec") => `(tactic| fail)
local macro_rules | `(tactic| walk_at "fc") => `(tactic| fail)
local macro_rules | `(tactic| walk_at "shape") => `(tactic| first | rfl | assumption)
local macro_rules | `(tactic| walk_at "e") => `(tactic| first
  | exact ev_int | exact ev_str | exact ev_bl | exact ev_non | exact ev_var rfl
  | (apply ev_ixO; (rfl); (walk_at "x"); (walk_at "side"))
  | (apply ev_ixT; (walk_at "e"); (walk_at "x"); (walk_at "side"))
  | (apply ev_ixL; (walk_at "e"); (walk_at "x"); (walk_at "side"))
  | (apply ev_I0; (walk_at "x"); (walk_at "x"); (rfl))
  | (apply ev_I0b; (walk_at "x"); (walk_at "x"); (rfl))
  | (apply ev_I; (walk_at "x"); (walk_at "x"); (rfl); (walk_at "side"))
  | (apply ev_neg; (walk_at "x"); (rfl))
  | (apply ev_eqI; (walk_at "x"); (walk_at "x"))
  | (apply ev_eqS; (walk_at "x"); (walk_at "x"))
  | (apply ev_eqB; (walk_at "x"); (walk_at "x"))
  | (apply ev_neI; (walk_at "x"); (walk_at "x"))
  | (apply ev_neS; (walk_at "x"); (walk_at "x"))
  | (apply ev_eqD; (walk_at "x"); (walk_at "x"); (walk_at "shape"); (walk_at "shape"))
  | (apply ev_neD; (walk_at "x"); (walk_at "x"); (walk_at "shape"); (walk_at "shape"))
  | (apply ev_andV; (walk_at "x"); (intro _; walk_at "x"))
  | (apply ev_orV; (walk_at "x"); (intro _; walk_at "x"))
  | (apply ev_notV; (walk_at "x"))
  | (apply ev_tup; (walk_at "s"); (exact Nat.le_of_ble_eq_true rfl))
  | (apply ev_slTb; (walk_at "e"); (walk_at "o"); (walk_at "o"); (rfl))
  | (apply ev_lenL; (walk_at "x"))
  | (apply ev_lenT; (walk_at "x"))
  | (apply ev_min2; (walk_at "x"); (walk_at "x"))
  | (apply ev_max2; (walk_at "x"); (walk_at "x"))
  | (apply ev_isi; (walk_at "x"); (first | exact kb_int_int | exact kb_int_bool | exact kb_int_str | exact kb_int_list | exact kb_int_tuple | exact kb_bool_int | exact kb_bool_bool | exact kb_bool_str | exact kb_bool_list | exact kb_bool_tuple | exact kb_str_int | exact kb_str_bool | exact kb_str_str | exact kb_str_list | exact kb_str_tuple | exact kb_list_int | exact kb_list_bool | exact kb_list_str | exact kb_list_list | exact kb_list_tuple | exact kb_tuple_int | exact kb_tuple_bool | exact kb_tuple_str | exact kb_tuple_list | exact kb_tuple_tuple | exact kb_NoneType_int | exact kb_NoneType_bool | exact kb_NoneType_str | exact kb_NoneType_list | exact kb_NoneType_tuple))
  | (apply ev_intB; (walk_at "x"))
  | walk_at "ec"
  | (apply ev_fresh; (walk_at "f")))
local macro_rules | `(tactic| walk_at "f") => `(tactic| first
  | (apply ef_lst; (walk_at "s"); (exact Nat.le_of_ble_eq_true rfl))
  | walk_at "fc")
local macro_rules | `(tactic| walk_at "x") => `(tactic| first
  | exact ev_varO rfl
  | (apply ev_weak; (walk_at "e")))
local macro_rules | `(tactic| walk_at "o") => `(tactic| first
  | exact eo_none
  | (apply eo_some; (walk_at "x")))
local macro_rules | `(tactic| walk_at "a") => `(tactic| first
  | exact ea_nil
  | (apply ea_cons; (walk_at "x"); (walk_at "a")))
local macro_rules | `(tactic| walk_at "s") => `(tactic| first
  | exact es_nil
  | (apply es_cons; (walk_at "e"); (walk_at "s")))
local macro_rules | `(tactic| walk_at "b") => `(tactic| first
  | exact eb_yes
  | (apply eb_test; (walk_at "x"))
  | (apply eb_B; (walk_at "x"))
  | (apply eb_not; (walk_at "b"))
  | (apply eb_and; (walk_at "b"); (intro _; walk_at "b"))
  | (apply eb_or; (walk_at "b"); (intro _; walk_at "b")))
/-! ### the mathematics -/
/-- places as data -/
def plD (ps : List (Int × Int)) : List PyData := ps.map fun p => .tuple [.int p.1, .int p.2]
theorem plD_imm (ps : List (Int × Int)) : immAll (plD ps) = true := immAll_iff fun d hd => by
  obtain ⟨p, _, rfl⟩ := List.mem_map.mp hd
  rfl
def areaP (r1 c1 r2 c2 : Int) : List (Int × Int) :=
  (List.range (max r1 r2 + 1 - min r1 r2).toNat).flatMap fun i => (List.range (max c1 c2 + 1 - min c1 c2).toNat).map fun j => (min r1 r2 + (i : Nat), min c1 c2 + (j : Nat))
theorem flat_grid {α : Type} (f : Nat → Nat → α) (w : Nat) (hw : 0 < w) : ∀ h : Nat, ((List.range h).flatMap fun i => (List.range w).map fun j => f i j) = (List.range (w * h)).map fun k => f (k / w) (k % w)
  | 0 => rfl
  | h + 1 => by
    rw [List.range_succ, List.flatMap_append, flat_grid f w hw h, List.flatMap_singleton, Nat.mul_succ, List.range_add, List.map_append, List.map_map]
    congr 1
    refine List.map_congr_left fun j hj => ?_
    have hj : j < w := List.mem_range.mp hj
    show f h j = f ((w * h + j) / w) ((w * h + j) % w)
    rw [Nat.mul_add_div hw, Nat.div_eq_of_lt hj, Nat.add_zero, Nat.mul_add_mod, Nat.mod_eq_of_lt hj]
theorem areaP_swap (r1 c1 r2 c2 : Int) : areaP r2 c2 r1 c1 = areaP r1 c1 r2 c2 := by
  unfold areaP
  rw [Int.max_comm r2 r1, Int.min_comm r2 r1, Int.max_comm c2 c1, Int.min_comm c2 c1]
theorem areaP_len (r1 c1 r2 c2 : Int) : (areaP r1 c1 r2 c2).length = (max r1 r2 + 1 - min r1 r2).toNat * (max c1 c2 + 1 - min c1 c2).toNat := by
  unfold areaP
  rw [List.length_flatMap]
  simp only [List.length_map, List.length_range]
  rw [List.map_const', List.length_range, List.sum_replicate_nat]
theorem rngD_flat (lo : Int) (n : Nat) (lo2 : Int) (m : Nat) : ((rngD lo n).flatMap fun d => (rngD lo2 m).map fun d1 => PyData.tuple [d, d1]) = plD ((List.range n).flatMap fun i => (List.range m).map fun j => (lo + (i : Nat), lo2 + (j : Nat))) := by
  unfold rngD plD
  rw [List.flatMap_map, List.map_flatMap]
  congr 1
  funext i
  rw [List.map_map, List.map_map]
  rfl
/-! ### area -/
structure Cor where
  r : Int
  c : Int
  x : List PyData
def Cor.d (a : Cor) : PyData := .tuple (.int a.r :: .int a.c :: a.x)
abbrev sp_area (K : PySem.W.Frag) : Sp := spL (α := Cor × Cor) K (fun a => [a.1.d, a.2.d]) (fun a => (areaP a.1.r a.1.c a.2.r a.2.c).length ≤ 50000) (fun a => plD (areaP a.1.r a.1.c a.2.r a.2.c))
section
variable {P : Program} {w : World} {K : PySem.W.Frag} {mg : Str → Option Value} {base : Heap}
theorem ok_area (T : Top K mg) : FnOk P w K mg base CX0 1 T.a_area T.d_area ["one", "two"] (sp_area K) := by
  refine fn_lst T.F_area sc_area (fun _ => rfl) fun cdv A outer s H E hr => ⟨_, B_area T hr, fun a hp => ?_⟩
  obtain ⟨⟨r1, c1, x1⟩, ⟨r2, c2, x2⟩⟩ := a
  show Ws K _ [.dat (.tuple (.int r1 :: .int c1 :: x1)), .dat (.tuple (.int r2 :: .int c2 :: x2)), .no, .no, .no, .no] _
  apply w_seq
  apply w_asgR
  · walk_at "a"
  apply w_seq
  apply w_asgR
  · walk_at "a"
  refine w_retF (ds := plD (areaP r1 c1 r2 c2)) (ev_isF (ef_lc2 (fun _ => rngD (min c1 c2) (max c1 c2 + 1 - min c1 c2).toNat) (fun d d1 => .tuple [d, d1]) (ei_rngO rfl) ?_ (wipe_set (by decide)) (wipe_set (by decide)) ?_ ?_) (rngD_flat ..)) rfl
  · rw [rngD_flat]
    unfold plD
    rw [List.length_map]
    exact hp
  · intro d hd
    exact ei_rngO rfl
  · intro d hd d1 hd1
    walk_at "e"
/-! ### the law's helpers -/
abbrev sp__law_whole (K : PySem.W.Frag) : Sp := spF (α := Int) K (fun i => [.int i]) (fun _ => True) (fun _ => .bool true)
theorem ok_whole (T : Top K mg) : FnOk P w K mg base CX0 1 T.a__law_whole T.d__law_whole ["_law_found"] (sp__law_whole K) := by
  refine fn_val T.F__law_whole sc__law_whole (fun _ => rfl) fun cdv A outer s H E hr => ⟨_, B__law_whole T hr, fun i hp => ?_⟩
  refine w_ret (d := .bool (true && !false)) (ev_weak (ev_andV ?_ fun _ => ?_)) (.inl rfl)
  · walk_at "x"
  · refine ev_weak (ev_notV ?_)
    walk_at "x"
def cell (ns : List Int) (k : Nat) : Int := ns.getD k 0
abbrev sp__law_cell_at (K : PySem.W.Frag) : Sp := spF (α := List Int × Nat) K (fun a => [.list (a.1.map PyData.int), .int (a.2 : Nat)]) (fun _ => True) (fun a => .int (cell a.1 a.2))
theorem ints_at {ns : List Int} {k : Nat} (h : k < ns.length) : atI (ns.map PyData.int) (k : Nat) = some (.int (cell ns k)) := by
  refine atI_nat ?_
  rw [List.getElem?_map, List.getElem?_eq_getElem h]
  unfold cell
  rw [List.getD_eq_getElem?_getD, List.getElem?_eq_getElem h]
  rfl
theorem ok_cell (T : Top K mg) : FnOk P w K mg base CX0 1 T.a__law_cell_at T.d__law_cell_at ["_law_script", "_law_k"] (sp__law_cell_at K) := by
  refine fn_val T.F__law_cell_at sc__law_cell_at (fun _ => rfl) fun cdv A outer s H E hr => ⟨_, B__law_cell_at T hr, fun a hp => ?_⟩
  obtain ⟨ns, n⟩ := a
  show Ws K _ [.dat (.list (ns.map PyData.int)), .dat (.int (n : Nat))] _
  apply w_seq
  apply w_if
  · walk_at "b"
  · intro hb
    rw [List.length_map] at hb
    have h1 := of_decide_eq_true hb
    have h2 : n < ns.length := by omega
    have h3 := ints_at h2
    apply w_ret
    · walk_at "x"
    · exact .inl rfl
  · intro hb
    rw [List.length_map] at hb
    have h1 := of_decide_eq_false hb
    have h2 : ns.length ≤ n := by omega
    apply w_next
    apply w_ret
    · walk_at "x"
    · left
      show Rt.val (.int 0) = Rt.val (.int (cell ns n))
      unfold cell
      rw [List.getD_eq_getElem?_getD, List.getElem?_eq_none h2]
      rfl
abbrev sp__law_places (K : PySem.W.Frag) : Sp := spF (α := List (Int × Int)) K (fun ps => [.list (plD ps), .list (plD ps)]) (fun ps => ps.length ≤ 50000) (fun _ => .bool true)
theorem eqv_place (a b : Int) : PyData.eqv (.tuple [.int a, .int b]) (.tuple [.int a, .int b]) = true := by
  simp [PyData.eqv, PyData.eqvAll]
theorem shaped_place (a b : Int) : SeqAt.shaped (.tuple [.int a, .int b]) = true := by
  rfl
theorem ec_whole {es : Es} {ta : TE} {i : Int} {E : XK} (h : EvX K ta es (.int i)) : EvE K (tCall (sp__law_whole K) [] E (tCons ta tNil)) es (.bool true) :=
  ev_call (args := fun i : Int => [PyData.int i]) i (ea_cons h ea_nil) True.intro rfl
theorem ec_cell {es : Es} {ta tb : TE} {ns : List Int} {i : Int} {E : XK} (h : EvX K ta es (.list (ns.map PyData.int))) (h2 : EvX K tb es (.int i)) (h0 : 0 ≤ i) : EvE K (tCall (sp__law_cell_at K) [] E (tCons ta (tCons tb tNil))) es (.int (cell ns i.toNat)) :=
  ev_call (args := fun a : List Int × Nat => [PyData.list (a.1.map PyData.int), PyData.int (a.2 : Nat)]) (ns, i.toNat) (ea_cons h (ea_cons (ev_isX h2 (by rw [Int.toNat_of_nonneg h0])) ea_nil)) True.intro rfl
theorem ec_places {es : Es} {ta tb : TE} {ps : List (Int × Int)} {E : XK} (h : EvX K ta es (.list (plD ps))) (h2 : EvX K tb es (.list (plD ps))) (h0 : ps.length ≤ 50000) : EvE K (tCall (sp__law_places K) [] E (tCons ta (tCons tb tNil))) es (.bool true) :=
  ev_call (args := fun ps : List (Int × Int) => [PyData.list (plD ps), .list (plD ps)]) ps (ea_cons h (ea_cons h2 ea_nil)) h0 rfl
theorem fc_area {es : Es} {ta tb : TE} {a b : Cor} {E : XK} (h : EvX K ta es a.d) (h2 : EvX K tb es b.d) (h0 : (areaP a.r a.c b.r b.c).length ≤ 50000) : EvF K (tCall (sp_area K) [] E (tCons ta (tCons tb tNil))) es (plD (areaP a.r a.c b.r b.c)) :=
  ef_call (args := fun a : Cor × Cor => [a.1.d, a.2.d]) (a, b) (ea_cons h (ea_cons h2 ea_nil)) h0 (plD_imm _)
local macro_rules | `(tactic| walk_at "ec") => `(tactic| first
  | (apply ec_whole; (walk_at "x"))
  | (apply ec_cell; (walk_at "x"); (walk_at "x"); (decide)))
theorem pl_at {ps : List (Int × Int)} {i : Nat} (h : i < ps.length) : atI (plD ps) (i : Nat) = some (.tuple [.int ps[i].1, .int ps[i].2]) := by
  refine atI_nat ?_
  unfold plD
  rw [List.getElem?_map, List.getElem?_eq_getElem h]
  rfl
theorem ok_places (T : Top K mg) : FnOk P w K mg base CX0 2 T.a__law_places T.d__law_places ["_law_found", "_law_due"] (sp__law_places K) := by
  refine fn_val T.F__law_places sc__law_places (fun _ => rfl) fun cdv A outer s H E hr => ⟨_, B__law_places T (ok_whole T) (by decide) hr, fun ps hp => ?_⟩
  show Ws K _ [.dat (.list (plD ps)), .dat (.list (plD ps)), .no, .no] _
  have lp : (plD ps).length = ps.length := by unfold plD; rw [List.length_map]
  apply w_seq
  apply w_if
  · walk_at "b"
  · intro hb
    exfalso
    simp at hb
  intro _
  apply w_next
  apply w_seq
  refine w_forN (ei_rng1 (n := ((plD ps).length : Nat)) ?_ ?_) (fun i e => ∃ x y, e = [.dat (.list (plD ps)), .dat (.list (plD ps)), x, y]) ⟨_, _, rfl⟩ ?_ ?_
  · walk_at "a"
  · rw [lp]
    have h : ps.length ≤ 50000 := hp
    omega
  · rintro i d e hd ⟨x, y, rfl⟩
    rw [Int.toNat_natCast] at hd
    have hi : i < ps.length := by
      have := (List.getElem?_eq_some_iff.mp hd).1
      rw [rngD_len, lp] at this
      exact this
    rw [rngD_get (by rw [lp]; exact hi)] at hd
    cases hd
    rw [Int.zero_add]
    have h3 := pl_at hi
    apply w_seq
    apply w_asg
    · walk_at "e"
    apply w_seq
    apply w_if
    · walk_at "b"
    · intro hb
      exfalso
      simp at hb
    intro _
    apply w_next
    apply w_if
    · walk_at "b"
    · intro hb
      exfalso
      rw [eqv_place] at hb
      simp at hb
    intro _
    apply w_next
    exact ⟨_, _, rfl⟩
  · rintro e ⟨x, y, rfl⟩
    apply w_ret
    · walk_at "x"
    · exact .inl rfl
abbrev spLaw (K : PySem.W.Frag) : Sp := spF (α := List Int) K (fun ns => [.list (ns.map PyData.int)]) (fun ns => ns.length ≤ 63) (fun _ => .bool true)
theorem menu6 (a b c d e f : Int) {i : Int} (h0 : 0 ≤ i) (h6 : i < 6) : ∃ x, atI [PyData.int a, .int b, .int c, .int d, .int e, .int f] i = some (.int x) := by
  have h : i = 0 ∨ i = 1 ∨ i = 2 ∨ i = 3 ∨ i = 4 ∨ i = 5 := by omega
  rcases h with rfl | rfl | rfl | rfl | rfl | rfl <;> exact ⟨_, rfl⟩
/-- the k-th corner as the loop makes it -/
def cor (r c stays : Int) (k : Int) : Cor := ⟨r, c, if decide (stays / 16 % 4 = 1) then [] else [.bool (decide (stays / (1 + 3 * k) % 2 = 1)), .bool (decide (stays / (2 + 3 * k) % 2 = 1))]⟩
theorem ec_minL {es : Es} {ta : TE} {a b : Int} (h : EvX K ta es (.list [.int a, .int b])) : EvE K (tCB (rMin K) (tCons ta tNil)) es (.int (min a b)) :=
  ev_minL (ns := [a, b]) h (by rcases Int.le_total a b with h | h <;> simp <;> omega) (by intro y hy; simp at hy; rcases hy with rfl | rfl <;> omega)
theorem ec_maxL {es : Es} {ta : TE} {a b : Int} (h : EvX K ta es (.list [.int a, .int b])) : EvE K (tCB (rMax K) (tCons ta tNil)) es (.int (max a b)) :=
  ev_maxL (ns := [a, b]) h (by rcases Int.le_total a b with h | h <;> simp <;> omega) (by intro y hy; simp at hy; rcases hy with rfl | rfl <;> omega)
local macro_rules | `(tactic| walk_at "ec") => `(tactic| first
  | (apply ec_minL; (walk_at "x"))
  | (apply ec_maxL; (walk_at "x"))
  | (apply ec_whole; (walk_at "x"))
  | (apply ec_cell; (walk_at "x"); (walk_at "x"); (decide)))
def dueG (top left wide : Int) : PyData → PyData
  | .int k => .tuple [.int (top + k / wide), .int (left + k % wide)]
  | _ => .none
theorem due_eq (r0 r1 c0 c1 down right : Int) :
    (rngD 0 ((max c0 c1 - min c0 c1 + 1) * (max r0 r1 - min r0 r1 + 1)).toNat).map (dueG (min r0 r1 + down) (min c0 c1 + right) (max c0 c1 - min c0 c1 + 1)) = plD (areaP (r0 + down) (c0 + right) (r1 + down) (c1 + right)) := by
  obtain ⟨w, hw, hw0⟩ : ∃ w : Nat, max c0 c1 - min c0 c1 + 1 = (w : Nat) ∧ 0 < w := ⟨(max c0 c1 - min c0 c1 + 1).toNat, by omega, by omega⟩
  obtain ⟨h, hh⟩ : ∃ h : Nat, max r0 r1 - min r0 r1 + 1 = (h : Nat) := ⟨(max r0 r1 - min r0 r1 + 1).toNat, by omega⟩
  unfold areaP
  rw [show (max (r0 + down) (r1 + down) + 1 - min (r0 + down) (r1 + down)).toNat = h by omega, show (max (c0 + right) (c1 + right) + 1 - min (c0 + right) (c1 + right)).toNat = w by omega, flat_grid (fun i j => (min (r0 + down) (r1 + down) + ((i : Nat) : Int), min (c0 + right) (c1 + right) + ((j : Nat) : Int))) w hw0]
  rw [hw, hh, ← Int.natCast_mul, Int.toNat_natCast]
  unfold rngD plD
  rw [List.map_map, List.map_map]
  refine List.map_congr_left fun k _ => ?_
  show PyData.tuple [.int (min r0 r1 + down + (0 + (k : Nat)) / (w : Nat)), .int (min c0 c1 + right + (0 + (k : Nat)) % (w : Nat))] = .tuple [.int (min (r0 + down) (r1 + down) + ((k / w : Nat) : Int)), .int (min (c0 + right) (c1 + right) + ((k % w : Nat) : Int))]
  rw [Int.zero_add, Int.natCast_ediv, Int.natCast_emod, show min (r0 + down) (r1 + down) = min r0 r1 + down by omega, show min (c0 + right) (c1 + right) = min c0 c1 + right by omega]
theorem area_small {r0 r1 c0 c1 down right : Int} (h : 0 ≤ r0 ∧ r0 < 14 ∧ 0 ≤ r1 ∧ r1 < 14 ∧ 0 ≤ c0 ∧ c0 < 14 ∧ 0 ≤ c1 ∧ c1 < 14) : (areaP (r0 + down) (c0 + right) (r1 + down) (c1 + right)).length ≤ 50000 := by
  rw [areaP_len]
  exact Nat.le_trans (Nat.mul_le_mul (show _ ≤ 14 by omega) (show _ ≤ 14 by omega)) (by decide)
theorem ok_law (T : Top K mg) : FnOk P w K mg base CX0 3 T.a_law T.d_law ["_law_script"] (spLaw K) := by
  refine fn_val T.F_law sc_law (fun _ => rfl) fun cdv A outer s H E hr => ⟨_, B_law T (ok_cell T) (by decide) (ok_places T) (by decide) (ok_area T) (by decide) hr, fun ns hp => ?_⟩
  show Ws K _ [.dat (.list (ns.map PyData.int)), .no, .no, .no, .no, .no, .no, .no, .no, .no, .no, .no, .no, .no, .no] _
  apply w_seq
  apply w_asgF
  · walk_at "f"
  apply w_seq
  apply w_asgF
  · walk_at "f"
  obtain ⟨far, hfar⟩ := menu6 0 0 0 (10 ^ (6 : Int).toNat) (10 ^ (30 : Int).toNat) (-40) (i := cell ns (4 : Int).toNat % 6) (by omega) (by omega)
  apply w_seq
  apply w_asg
  · walk_at "e"
  apply w_seq
  apply w_asg
  · walk_at "e"
  apply w_seq
  apply w_asg
  · walk_at "e"
  apply w_seq
  apply w_asg
  · walk_at "e"
  apply w_seq
  apply w_asgF
  · walk_at "f"
  generalize h0 : cell ns (0 : Int).toNat % 14 = r0
  generalize h1 : cell ns (1 : Int).toNat % 14 = r1
  generalize h2 : cell ns (2 : Int).toNat % 14 = c0
  generalize h3 : cell ns (3 : Int).toNat % 14 = c1
  have hb : 0 ≤ r0 ∧ r0 < 14 ∧ 0 ≤ r1 ∧ r1 < 14 ∧ 0 ≤ c0 ∧ c0 < 14 ∧ 0 ≤ c1 ∧ c1 < 14 := by omega
  generalize far * (cell ns (4 : Int).toNat / 6 % 2) = down
  generalize far * (cell ns (4 : Int).toNat / 12 % 3 % 2) = right
  generalize cell ns (5 : Int).toNat = stays
  clear h0 h1 h2 h3 hfar
  apply w_seq
  refine w_forN (ei_rng1 (n := 2) ?_ (by decide)) (fun i e => ∃ cs x y, cs = [(cor (r0 + down) (c0 + right) stays 0).d, (cor (r1 + down) (c1 + right) stays 1).d].take i ∧
    e = [.dat (.list (ns.map PyData.int)), .own [.int r0, .int r1], .own [.int c0, .int c1], .dat (.int far), .dat (.int down), .dat (.int right), .dat (.int stays), .own cs, x, .no, .no, .no, .no, .no, y]) ⟨[], _, _, rfl, rfl⟩ ?_ ?_
  · walk_at "a"
  · rintro i d e hd ⟨cs, x, y, rfl, rfl⟩
    have hi : i < 2 := (List.getElem?_eq_some_iff.mp hd).1
    have h : i = 0 ∨ i = 1 := by omega
    rcases h with rfl | rfl
    · cases hd
      show Ws K _ [.dat (.list (ns.map PyData.int)), .own [.int r0, .int r1], .own [.int c0, .int c1], .dat (.int far), .dat (.int down), .dat (.int right), .dat (.int stays), .own [], .dat (.int 0), .no, .no, .no, .no, .no, y] _
      apply w_seq
      apply w_asg
      · walk_at "e"
      apply w_seq
      apply w_if
      · walk_at "b"
      · intro hc
        apply w_asg
        · walk_at "e"
        apply w_append rfl
        · walk_at "e"
        · decide
        refine ⟨_, _, _, ?_, rfl⟩
        unfold cor Cor.d
        rw [hc]
        rfl
      · intro hc
        apply w_next
        apply w_append rfl
        · walk_at "e"
        · decide
        refine ⟨_, _, _, ?_, rfl⟩
        unfold cor Cor.d
        rw [hc]
        rfl
    · cases hd
      show Ws K _ [.dat (.list (ns.map PyData.int)), .own [.int r0, .int r1], .own [.int c0, .int c1], .dat (.int far), .dat (.int down), .dat (.int right), .dat (.int stays), .own [(cor (r0 + down) (c0 + right) stays 0).d], .dat (.int 1), .no, .no, .no, .no, .no, y] _
      apply w_seq
      apply w_asg
      · walk_at "e"
      apply w_seq
      apply w_if
      · walk_at "b"
      · intro hc
        apply w_asg
        · walk_at "e"
        apply w_append rfl
        · walk_at "e"
        · exact Nat.le_of_ble_eq_true rfl
        refine ⟨_, _, _, ?_, rfl⟩
        unfold cor Cor.d
        rw [hc]
        rfl
      · intro hc
        apply w_next
        apply w_append rfl
        · walk_at "e"
        · exact Nat.le_of_ble_eq_true rfl
        refine ⟨_, _, _, ?_, rfl⟩
        unfold cor Cor.d
        rw [hc]
        rfl
  rintro e ⟨cs, x, y, rfl, rfl⟩
  show Ws K _ [.dat (.list (ns.map PyData.int)), .own [.int r0, .int r1], .own [.int c0, .int c1], .dat (.int far), .dat (.int down), .dat (.int right), .dat (.int stays), .own [(cor (r0 + down) (c0 + right) stays 0).d, (cor (r1 + down) (c1 + right) stays 1).d], x, .no, .no, .no, .no, .no, y] _
  apply w_seq
  apply w_asg
  · walk_at "e"
  apply w_seq
  apply w_asg
  · walk_at "e"
  apply w_seq
  apply w_asg
  · walk_at "e"
  apply w_seq
  apply w_asg
  · walk_at "e"
  have hm : (max c0 c1 - min c0 c1 + 1) * (max r0 r1 - min r0 r1 + 1) ≤ 14 * 14 := Int.mul_le_mul (by omega) (by omega) (by omega) (by decide)
  have hm0 : 0 ≤ (max c0 c1 - min c0 c1 + 1) * (max r0 r1 - min r0 r1 + 1) := Int.mul_nonneg (by omega) (by omega)
  apply w_seq
  refine w_asgF (ev_isF (ef_lcA (dueG (min r0 r1 + down) (min c0 c1 + right) (max c0 c1 - min c0 c1 + 1)) (ei_rng1 (n := (max c0 c1 - min c0 c1 + 1) * (max r0 r1 - min r0 r1 + 1)) ?_ ⟨by omega, by omega⟩) (by rw [rngD_len]; omega) (wipe_set (by decide)) ?_) (due_eq r0 r1 c0 c1 down right)) ?_
  · walk_at "a"
  · intro d hd
    obtain ⟨k, hk, rfl⟩ := List.mem_map.mp hd
    walk_at "e"
  have hs := area_small (down := down) (right := right) hb
  apply w_seq
  apply w_if
  · apply eb_not
    apply eb_B
    apply ev_weak
    refine ec_places (ev_weak (ev_fresh (fc_area (a := cor (r0 + down) (c0 + right) stays 0) (b := cor (r1 + down) (c1 + right) stays 1) ?_ ?_ hs))) (ev_varO rfl) hs
    · walk_at "x"
    · walk_at "x"
  · intro hc
    cases hc
  intro _
  apply w_next
  refine w_ret (d := .bool true) (ev_weak (ec_places (ps := areaP (r0 + down) (c0 + right) (r1 + down) (c1 + right)) (ev_weak (ev_fresh (ev_isF (fc_area (a := cor (r1 + down) (c1 + right) stays 1) (b := cor (r0 + down) (c0 + right) stays 0) ?_ ?_ ?_) ?_))) (ev_varO rfl) hs)) (.inl rfl)
  · walk_at "x"
  · walk_at "x"
  · show (areaP (r1 + down) (c1 + right) (r0 + down) (c0 + right)).length ≤ 50000
    rw [areaP_swap]
    exact hs
  · show plD (areaP (r1 + down) (c1 + right) (r0 + down) (c0 + right)) = _
    rw [areaP_swap]
end
end K01

namespace K01
open PySem PySem.Spec L2 Pu
open Evl (Ex rLenS rMax2 rListS)
open PyProof.Rows (envOfC)
theorem all_mk {l : PySem.W.OpenLaw} {w : World} {K : PySem.W.Frag} {h : Heap} {mg : Str → Option Value} {fa : Addr} (X : K.In h) (G : h.Ns mainGlobals mg) (hfa : mg "law" = some (.ref fa))
    {f0 : Addr} {od0 an0 : Option Addr} {sl0 : Array (Option Value)} {oc0 kV0 dc0 pm0 cd0 ct0 : Value}
    (a0 : PySem.W.nsIn K mainGlobals "area" = some (some (.ref f0))) (l0 : K.lookup f0 = some ⟨oc0, od0, .func (PySem.W.fnOf "area" "area" (defArgs s_area) (defBody s_area) (defScope s_area) .none kV0 dc0 pm0 an0 cd0 ct0), sl0⟩) (c0 : PySem.W.codeIn K cd0 "area" = true) (k0 : PySem.W.keepIn K (.ref f0) = true)
    {f1 : Addr} {od1 an1 : Option Addr} {sl1 : Array (Option Value)} {oc1 kV1 dc1 pm1 cd1 ct1 : Value}
    (a1 : PySem.W.nsIn K mainGlobals "_law_whole" = some (some (.ref f1))) (l1 : K.lookup f1 = some ⟨oc1, od1, .func (PySem.W.fnOf "_law_whole" "_law_whole" (defArgs s__law_whole) (defBody s__law_whole) (defScope s__law_whole) .none kV1 dc1 pm1 an1 cd1 ct1), sl1⟩) (c1 : PySem.W.codeIn K cd1 "_law_whole" = true) (k1 : PySem.W.keepIn K (.ref f1) = true)
    {f2 : Addr} {od2 an2 : Option Addr} {sl2 : Array (Option Value)} {oc2 kV2 dc2 pm2 cd2 ct2 : Value}
    (a2 : PySem.W.nsIn K mainGlobals "_law_cell_at" = some (some (.ref f2))) (l2 : K.lookup f2 = some ⟨oc2, od2, .func (PySem.W.fnOf "_law_cell_at" "_law_cell_at" (defArgs s__law_cell_at) (defBody s__law_cell_at) (defScope s__law_cell_at) .none kV2 dc2 pm2 an2 cd2 ct2), sl2⟩) (c2 : PySem.W.codeIn K cd2 "_law_cell_at" = true) (k2 : PySem.W.keepIn K (.ref f2) = true)
    {f3 : Addr} {od3 an3 : Option Addr} {sl3 : Array (Option Value)} {oc3 kV3 dc3 pm3 cd3 ct3 : Value}
    (a3 : PySem.W.nsIn K mainGlobals "_law_places" = some (some (.ref f3))) (l3 : K.lookup f3 = some ⟨oc3, od3, .func (PySem.W.fnOf "_law_places" "_law_places" (defArgs s__law_places) (defBody s__law_places) (defScope s__law_places) .none kV3 dc3 pm3 an3 cd3 ct3), sl3⟩) (c3 : PySem.W.codeIn K cd3 "_law_places" = true) (k3 : PySem.W.keepIn K (.ref f3) = true)
    {f4 : Addr} {od4 an4 : Option Addr} {sl4 : Array (Option Value)} {oc4 kV4 dc4 pm4 cd4 ct4 : Value}
    (a4 : PySem.W.nsIn K mainGlobals "law" = some (some (.ref f4))) (l4 : K.lookup f4 = some ⟨oc4, od4, .func (PySem.W.fnOf "law" "law" (defArgs s_law) (defBody s_law) (defScope s_law) .none kV4 dc4 pm4 an4 cd4 ct4), sl4⟩) (c4 : PySem.W.codeIn K cd4 "law" = true) (k4 : PySem.W.keepIn K (.ref f4) = true)
    (z_bool : PySem.W.nsIn K mainGlobals "bool" = some none)
    (z_int : PySem.W.nsIn K mainGlobals "int" = some none)
    (z_isinstance : PySem.W.nsIn K mainGlobals "isinstance" = some none)
    (z_len : PySem.W.nsIn K mainGlobals "len" = some none)
    (z_list : PySem.W.nsIn K mainGlobals "list" = some none)
    (z_max : PySem.W.nsIn K mainGlobals "max" = some none)
    (z_min : PySem.W.nsIn K mainGlobals "min" = some none)
    (z_range : PySem.W.nsIn K mainGlobals "range" = some none)
    (z_tuple : PySem.W.nsIn K mainGlobals "tuple" = some none)
    : ∃ fd : FuncData, (∀ (s : Shared) (v : Value), BindsTo s fd ⟨[v], []⟩ [("_law_script", v)]) ∧ ∀ base : Heap, K.In base → base.Ns mainGlobals mg → FnOk l.prog w K mg base CX0 3 fa fd ["_law_script"] (spLaw K) := by
  have e := hfa.symm.trans (PySem.W.mg_of X G a4)
  cases e
  refine ⟨PySem.W.fnOf "law" "law" (defArgs s_law) (defBody s_law) (defScope s_law) .none kV4 dc4 pm4 an4 cd4 ct4, fun s v => .of_eq rfl, fun base _ _ => ok_law ({
    a_area := _, d_area := _, F_area := fun_mk (st := s_area) l0 c0 k0, b_area := (fun_mk (st := s_area) l0 c0 k0).binds (ps := ["one", "two"]) fun _ _ _ _ _ _ us hl => match us, hl with | [_, _], _ => rfl, m_area := PySem.W.mg_of X G a0,
    a__law_whole := _, d__law_whole := _, F__law_whole := fun_mk (st := s__law_whole) l1 c1 k1, b__law_whole := (fun_mk (st := s__law_whole) l1 c1 k1).binds (ps := ["_law_found"]) fun _ _ _ _ _ _ us hl => match us, hl with | [_], _ => rfl, m__law_whole := PySem.W.mg_of X G a1,
    a__law_cell_at := _, d__law_cell_at := _, F__law_cell_at := fun_mk (st := s__law_cell_at) l2 c2 k2, b__law_cell_at := (fun_mk (st := s__law_cell_at) l2 c2 k2).binds (ps := ["_law_script", "_law_k"]) fun _ _ _ _ _ _ us hl => match us, hl with | [_, _], _ => rfl, m__law_cell_at := PySem.W.mg_of X G a2,
    a__law_places := _, d__law_places := _, F__law_places := fun_mk (st := s__law_places) l3 c3 k3, b__law_places := (fun_mk (st := s__law_places) l3 c3 k3).binds (ps := ["_law_found", "_law_due"]) fun _ _ _ _ _ _ us hl => match us, hl with | [_, _], _ => rfl, m__law_places := PySem.W.mg_of X G a3,
    a_law := _, d_law := _, F_law := fun_mk (st := s_law) l4 c4 k4, b_law := (fun_mk (st := s_law) l4 c4 k4).binds (ps := ["_law_script"]) fun _ _ _ _ _ _ us hl => match us, hl with | [_], _ => rfl, m_law := PySem.W.mg_of X G a4,
    z_bool := PySem.W.mg_none_of X G z_bool,
    z_int := PySem.W.mg_none_of X G z_int,
    z_isinstance := PySem.W.mg_none_of X G z_isinstance,
    z_len := PySem.W.mg_none_of X G z_len,
    z_list := PySem.W.mg_none_of X G z_list,
    z_max := PySem.W.mg_none_of X G z_max,
    z_min := PySem.W.mg_none_of X G z_min,
    z_range := PySem.W.mg_none_of X G z_range,
    z_tuple := PySem.W.mg_none_of X G z_tuple } : Top K mg)⟩
end K01
open PySem PySem.W PyProof.Rows
set_option maxRecDepth 100000 in
set_option maxHeartbeats 0 in
theorem PySem.Challenge.cw_rulesheet_k01_areas_holds : PySem.Challenge.rw_rulesheet_k01_areas.Holds := by
  w_on; o_law; k_head; (case hw => w_witness2)
  k_fill
  refine L2.walk_of (l := PySem.Challenge.rw_rulesheet_k01_areas) (n := 63) (k := 3) (x := "_law_script") (CX := fun _ => L2.CX0) (sp := fun w => K01.spLaw _) rfl (by decide) rfl ⟨rfl, by decide, by decide⟩ (fun w h Y => PySem.W.kIn_of Y) ?F (fun _ H a ns hl _ hS => ⟨ns, .cons (.lst hS Pu.dpa_mkInts) .nil, hl, fun v H2 _ hv => Pu.dp_bl hv⟩) (fun _ _ _ _ _ h => h)
  case F =>
    intro w mg fa h KX G hmg
    refine' K01.all_mk KX G hmg ?a0 ?l0 ?c0 ?k0 ?a1 ?l1 ?c1 ?k1 ?a2 ?l2 ?c2 ?k2 ?a3 ?l3 ?c3 ?k3 ?a4 ?l4 ?c4 ?k4 ?z_bool ?z_int ?z_isinstance ?z_len ?z_list ?z_max ?z_min ?z_range ?z_tuple
    (case a0 => k_is)
    (case l0 => k_is)
    (case c0 => k_is)
    (case k0 => k_is)
    (case a1 => k_is)
    (case l1 => k_is)
    (case c1 => k_is)
    (case k1 => k_is)
    (case a2 => k_is)
    (case l2 => k_is)
    (case c2 => k_is)
    (case k2 => k_is)
    (case a3 => k_is)
    (case l3 => k_is)
    (case c3 => k_is)
    (case k3 => k_is)
    (case a4 => k_is)
    (case l4 => k_is)
    (case c4 => k_is)
    (case k4 => k_is)
    (case z_bool => k_is)
    (case z_int => k_is)
    (case z_isinstance => k_is)
    (case z_len => k_is)
    (case z_list => k_is)
    (case z_max => k_is)
    (case z_min => k_is)
    (case z_range => k_is)
    (case z_tuple => k_is)
