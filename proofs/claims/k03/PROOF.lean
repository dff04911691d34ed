import PyProof.Rows.All
import Wide.All
import OpenK.AllK
import Wide.FinOn
import HandS.ForMost
import HandS.Evl
import HandS.IsInst
import HandS.Sort
import HandS.Wide
import PyProof.LongRange
import HandS.Rev
import HandS.More
import PySem.Challenge.RW_rulesheet_k03_shifted
set_option Elab.async false
set_option linter.all false
set_option maxRecDepth 100000
set_option maxHeartbeats 4000000
/-! own layer: values as plain data, locals as a row of data, lists that a def keeps to itself -/
namespace Pu
open PySem PySem.Spec L2 Evl

/-! ### heaps -/
/-- G is what is shared; what H has beside it is private; behind H2: the shared part -/
def grow (G H H2 : Hp) : Hp := fun a => match G a, H a with
  | none, some _ => none
  | _, _ => H2 a
def hide (p : Addr) (G : Hp) : Hp := fun a => if a = p then none else G a
theorem grow_priv {G H H2 : Hp} {a : Addr} {o : HO} (h1 : G a = none) (h2 : H a = some o) : grow G H H2 a = none := by
  unfold grow
  rw [h1, h2]
theorem grow_pub {G H H2 : Hp} {a : Addr} {o : HO} (h1 : G a = some o) : grow G H H2 a = H2 a := by
  unfold grow
  rw [h1]
theorem grow_new {G H H2 : Hp} {a : Addr} (h1 : H a = none) : grow G H H2 a = H2 a := by
  unfold grow
  rw [h1]
  cases G a <;> rfl
theorem ex_grow {G H H2 : Hp} (e : Ex G H) (e2 : Ex H H2) : Ex G (grow G H H2) := fun a o h => by
  rw [grow_pub h]
  exact e2 a o (e a o h)
theorem grow_ex {G H H2 : Hp} : Ex (grow G H H2) H2 := fun a o h => by
  unfold grow at h
  split at h
  · cases h
  · exact h
theorem grow_mono {G H H2 H3 : Hp} (e : Ex H2 H3) : Ex (grow G H H2) (grow G H H3) := fun a o h => by
  unfold grow at h ⊢
  split at h
  · cases h
  · exact e a o h
theorem grow_self {G H : Hp} (e : Ex G H) : grow G H H = G := by
  funext a
  unfold grow
  cases hg : G a with
  | none =>
    cases hh : H a with
    | none => rfl
    | some o => rfl
  | some o =>
    show H a = some o
    exact e a o hg
theorem grow_grow {G H H1 H2 : Hp} (e : Ex H H1) : grow (grow G H H1) H1 H2 = grow G H H2 := by
  funext a
  unfold grow
  cases hg : G a with
  | none =>
    cases hh : H a with
    | none =>
      cases h1 : H1 a with
      | none => rfl
      | some o => rfl
    | some o =>
      have := e a o hh
      rw [this]
  | some o =>
    cases h1 : H1 a with
    | none => rfl
    | some o => rfl
theorem hide_ex {p : Addr} {G : Hp} : Ex (hide p G) G := fun a o h => by
  unfold hide at h
  split at h
  · cases h
  · exact h
theorem hide_self {p : Addr} {G : Hp} : hide p G p = none := by
  unfold hide
  rw [if_pos rfl]
theorem hide_ne {p a : Addr} {G : Hp} (h : a ≠ p) : hide p G a = G a := by
  unfold hide
  rw [if_neg h]
theorem hide_mono {p : Addr} {G G' : Hp} (e : Ex G G') : Ex (hide p G) (hide p G') := fun a o h => by
  by_cases hp : a = p
  · rw [hp, hide_self] at h
    cases h
  · rw [hide_ne hp] at h ⊢
    exact e a o h
theorem ex_hide {p : Addr} {G G' : Hp} (e : Ex G G') (h : G p = none) : Ex G (hide p G') := fun a o q => by
  have hp : a ≠ p := fun z => by
    rw [z, h] at q
    cases q
  rw [hide_ne hp]
  exact e a o q

/-! ### data -/
mutual
def imm : PyData → Bool
  | .list _ => false
  | .dict _ => false
  | .tuple ds => immAll ds
  | _ => true
def immAll : List PyData → Bool
  | [] => true
  | d :: ds => imm d && immAll ds
end
section
variable {K : PySem.W.Frag} {H H' : Hp}
mutual
theorem dp_ex (e : Ex H H') : ∀ (d : PyData) (v : V), Dp K H v d → Dp K H' v d
  | .none, _, h => by cases h; exact .non
  | .bool b, _, h => by cases h; exact .bl b
  | .int i, _, h => by cases h; exact .int i
  | .str x, _, h => by cases h; exact .str x
  | .list ds, _, h => by
    cases h with
    | lst hs ha => exact .lst (ex_l e hs) (dpa_ex e ds _ ha)
  | .tuple ds, _, h => by
    cases h with
    | tup hs ha => exact .tup (ex_t e hs) (dpa_ex e ds _ ha)
  | .dict _, _, h => by cases h
theorem dpa_ex (e : Ex H H') : ∀ (ds : List PyData) (vs : List V), DpAll K H vs ds → DpAll K H' vs ds
  | [], _, h => by cases h; exact .nil
  | d :: ds, _, h => by
    cases h with
    | cons h1 h2 => exact .cons (dp_ex e d _ h1) (dpa_ex e ds _ h2)
end
theorem _root_.L2.Dp.up {v : V} {d : PyData} (h : Dp K H v d) (e : Ex H H') : Dp K H' v d := dp_ex e d v h
theorem _root_.L2.DpAll.up {vs : List V} {ds : List PyData} (h : DpAll K H vs ds) (e : Ex H H') : DpAll K H' vs ds := dpa_ex e ds vs h
/-- every tuple stays -/
def ExT (K : PySem.W.Frag) (H H' : Hp) : Prop := ∀ a xs, SqT K H a xs → SqT K H' a xs
mutual
theorem dp_imm (e : ExT K H H') : ∀ (d : PyData) (v : V), imm d = true → Dp K H v d → Dp K H' v d
  | .none, _, _, h => by cases h; exact .non
  | .bool b, _, _, h => by cases h; exact .bl b
  | .int i, _, _, h => by cases h; exact .int i
  | .str x, _, _, h => by cases h; exact .str x
  | .list ds, _, hi, h => by
    unfold imm at hi
    cases hi
  | .tuple ds, _, hi, h => by
    cases h with
    | tup hs ha =>
      refine .tup (e _ _ hs) (dpa_imm e ds _ ?_ ha)
      unfold imm at hi
      exact hi
  | .dict _, _, _, h => by cases h
theorem dpa_imm (e : ExT K H H') : ∀ (ds : List PyData) (vs : List V), immAll ds = true → DpAll K H vs ds → DpAll K H' vs ds
  | [], _, _, h => by cases h; exact .nil
  | d :: ds, _, hi, h => by
    unfold immAll at hi
    obtain ⟨i1, i2⟩ := Bool.and_eq_true_iff.mp hi
    cases h with
    | cons h1 h2 => exact .cons (dp_imm e d _ i1 h1) (dpa_imm e ds _ i2 h2)
end
/-- what is shared keeps its tuples, if what is private are lists -/
theorem exT_of {G : Hp} (h : ∀ a xs, Rd H a (.tup xs) → Rd G a (.tup xs)) : ExT K H G := fun a xs q => by
  rcases q with q | q
  · exact .inl (h a xs q)
  · exact .inr q
theorem dpa_len {vs : List V} {ds : List PyData} (h : DpAll K H vs ds) : vs.length = ds.length := by
  induction ds generalizing vs with
  | nil => cases h; rfl
  | cons d ds ih =>
    cases h with
    | cons h1 h2 => rw [List.length_cons, List.length_cons, ih h2]
theorem dpa_at : ∀ {ds : List PyData} {vs : List V} {i : Nat} {d : PyData}, DpAll K H vs ds → ds[i]? = some d → ∃ v, vs[i]? = some v ∧ Dp K H v d
  | [], _, _, _, _, hi => by simp at hi
  | d' :: ds, _, 0, d, h, hi => by
    cases h with
    | cons h1 h2 =>
      have e : d' = d := by simpa using hi
      subst e
      exact ⟨_, rfl, h1⟩
  | d' :: ds, _, i + 1, d, h, hi => by
    cases h with
    | cons h1 h2 =>
      obtain ⟨v, q, r⟩ := dpa_at (i := i) h2 (by simpa using hi)
      exact ⟨v, by simpa using q, r⟩
theorem dpa_at' {vs : List V} {ds : List PyData} {i : Nat} {v : V} (h : DpAll K H vs ds) (hi : vs[i]? = some v) : ∃ d, ds[i]? = some d ∧ Dp K H v d := by
  have hl : i < vs.length := (List.getElem?_eq_some_iff.mp hi).1
  rw [dpa_len h] at hl
  obtain ⟨v', e, q⟩ := dpa_at h (List.getElem?_eq_getElem hl)
  rw [hi] at e
  cases e
  exact ⟨_, List.getElem?_eq_getElem hl, q⟩
theorem dpa_ix {vs : List V} {ds : List PyData} {i : Int} {d : PyData} (h : DpAll K H vs ds) (hi : atI ds i = some d) : ∃ v, atI vs i = some v ∧ Dp K H v d := by
  unfold atI at hi ⊢
  rw [dpa_len h]
  cases hx : ixN ds.length i with
  | none =>
    rw [hx] at hi
    cases hi
  | some j =>
    rw [hx] at hi
    exact dpa_at h hi
theorem dpa_app {vs ws : List V} {ds es : List PyData} (h : DpAll K H vs ds) (h' : DpAll K H ws es) : DpAll K H (vs ++ ws) (ds ++ es) := by
  induction ds generalizing vs with
  | nil => cases h; exact h'
  | cons d ds ih =>
    cases h with
    | cons h1 h2 => exact .cons h1 (ih h2)
theorem dpa_snoc {vs : List V} {v : V} {ds : List PyData} {d : PyData} (h : DpAll K H vs ds) (h' : Dp K H v d) : DpAll K H (vs ++ [v]) (ds ++ [d]) := dpa_app h (.cons h' .nil)
theorem dpa_take {vs : List V} {ds : List PyData} (n : Nat) (h : DpAll K H vs ds) : DpAll K H (vs.take n) (ds.take n) := by
  induction ds generalizing vs n with
  | nil => cases h; rw [List.take_nil, List.take_nil]; exact .nil
  | cons d ds ih =>
    cases h with
    | cons h1 h2 =>
      cases n with
      | zero => exact .nil
      | succ n => exact .cons h1 (ih n h2)
theorem dpa_drop {vs : List V} {ds : List PyData} (n : Nat) (h : DpAll K H vs ds) : DpAll K H (vs.drop n) (ds.drop n) := by
  induction ds generalizing vs n with
  | nil => cases h; rw [List.drop_nil, List.drop_nil]; exact .nil
  | cons d ds ih =>
    cases h with
    | cons h1 h2 =>
      cases n with
      | zero => exact .cons h1 h2
      | succ n => exact ih n h2
theorem dpa_set {vs : List V} {v : V} {ds : List PyData} {d : PyData} (n : Nat) (h : DpAll K H vs ds) (h' : Dp K H v d) : DpAll K H (vs.set n v) (ds.set n d) := by
  induction ds generalizing vs n with
  | nil => cases h; exact .nil
  | cons d' ds ih =>
    cases h with
    | cons h1 h2 =>
      cases n with
      | zero => exact .cons h' h2
      | succ n => exact .cons h1 (ih n h2)
theorem dpa_dropLast {vs : List V} {ds : List PyData} (h : DpAll K H vs ds) : DpAll K H vs.dropLast ds.dropLast := by
  rw [List.dropLast_eq_take, List.dropLast_eq_take, dpa_len h]
  exact dpa_take _ h
theorem dpa_rev {vs : List V} {ds : List PyData} (h : DpAll K H vs ds) : DpAll K H vs.reverse ds.reverse := by
  induction ds generalizing vs with
  | nil => cases h; exact .nil
  | cons d ds ih =>
    cases h with
    | cons h1 h2 =>
      rw [List.reverse_cons, List.reverse_cons]
      exact dpa_snoc (ih h2) h1
end

/-! ### the locals of a def as data -/
inductive Ent where
  | no
  | dat (d : PyData)
  /-- a list that nobody else knows -/
  | own (ds : List PyData)
  | rng (lo hi : Int)
abbrev Es := List Ent
/-- what may be private: no tuple, nothing locked -/
def NT : HO → Prop
  | .tup _ => False
  | .frz _ _ => False
  | _ => True
structure SE (K : PySem.W.Frag) (G H : Hp) (σ : St) (es : Es) : Prop where
  ex : Ex G H
  len : es.length = σ.length
  dat : ∀ (i : Nat) (d : PyData), es[i]? = some (Ent.dat d) → ∃ v, σ[i]? = some (some v) ∧ Dp K G v d
  own : ∀ (i : Nat) (ds : List PyData), es[i]? = some (Ent.own ds) → ∃ p xs, σ[i]? = some (some (V.ref p)) ∧ G p = none ∧ H p = some (.lst xs) ∧ DpAll K G xs ds
  inj : ∀ (i j : Nat) (ds ds' : List PyData) (p : Addr), es[i]? = some (Ent.own ds) → es[j]? = some (Ent.own ds') → σ[i]? = some (some (V.ref p)) → σ[j]? = some (some (V.ref p)) → i = j
  rng : ∀ (i : Nat) (lo hi : Int), es[i]? = some (Ent.rng lo hi) → ∃ p, σ[i]? = some (some (V.ref p)) ∧ G p = some (.rng lo hi)
  prv : ∀ a o, G a = none → H a = some o → NT o
section
variable {K : PySem.W.Frag} {G G' H H1 H2 : Hp} {σ : St} {es : Es}
/-- another split of a grown heap -/
theorem SE.re (S : SE K G H σ es) (eg : Ex G G') (e : Ex G' H1) (eh : Ex H H1) (hp : ∀ p xs, G p = none → H p = some (.lst xs) → G' p = none) (pv : ∀ a o, G' a = none → H1 a = some o → NT o) : SE K G' H1 σ es where
  prv := pv
  ex := e
  len := S.len
  dat := fun i d h => by
    obtain ⟨v, a, b⟩ := S.dat i d h
    exact ⟨v, a, b.up eg⟩
  own := fun i ds h => by
    obtain ⟨p, xs, a, b, c, d⟩ := S.own i ds h
    exact ⟨p, xs, a, hp p xs b c, eh _ _ c, d.up eg⟩
  inj := S.inj
  rng := fun i lo hi h => by
    obtain ⟨p, a, b⟩ := S.rng i lo hi h
    exact ⟨p, a, eg _ _ b⟩
theorem prv_grow (pv : ∀ a o, G a = none → H a = some o → NT o) (e : Ex H H2) : ∀ a o, Pu.grow G H H2 a = none → H2 a = some o → NT o := fun a o h1 h2 => by
  cases hg : G a with
  | some u =>
    rw [grow_pub hg, h2] at h1
    cases h1
  | none =>
    cases hh : H a with
    | none =>
      rw [grow_new hh, h2] at h1
      cases h1
    | some u =>
      have := e a u hh
      rw [h2] at this
      cases this
      exact pv a _ hg hh
theorem SE.grow (S : SE K G H σ es) (e : Ex H H2) : SE K (Pu.grow G H H2) H2 σ es := S.re (ex_grow S.ex e) grow_ex e (fun _ _ h1 h2 => grow_priv h1 h2) (prv_grow S.prv e)
theorem set_get {α : Type} {l : List α} {i j : Nat} {x y : α} (h : (l.set i x)[j]? = some y) : (j = i ∧ y = x ∧ i < l.length) ∨ (j ≠ i ∧ l[j]? = some y) := by
  by_cases e : j = i
  · subst e
    rw [List.getElem?_set] at h
    rw [if_pos rfl] at h
    split at h
    · cases h
      rename_i hl
      exact .inl ⟨rfl, rfl, hl⟩
    · cases h
  · rw [List.getElem?_set_ne (Ne.symm e)] at h
    exact .inr ⟨e, h⟩
theorem get_set {α : Type} {l : List α} {i : Nat} {x : α} (h : i < l.length) : (l.set i x)[i]? = some x := by
  rw [List.getElem?_set_self h]
theorem get_set_ne {α : Type} {l : List α} {i j : Nat} {x : α} (h : j ≠ i) : (l.set i x)[j]? = l[j]? := List.getElem?_set_ne (Ne.symm h)
/-- a slot takes another value -/
theorem SE.put (S : SE K G H σ es) (i : Nat) (v : Option V) (en : Ent) (hd : ∀ d, en = .dat d → ∃ x, v = some x ∧ Dp K G x d)
    (ho : ∀ ds, en = .own ds → ∃ p xs, v = some (.ref p) ∧ G p = none ∧ H p = some (.lst xs) ∧ DpAll K G xs ds ∧ ∀ (j : Nat) (ds' : List PyData), j ≠ i → es[j]? = some (Ent.own ds') → σ[j]? ≠ some (some (V.ref p)))
    (hr : ∀ lo hi, en = .rng lo hi → ∃ p, v = some (.ref p) ∧ G p = some (.rng lo hi)) : SE K G H (σ.set i v) (es.set i en) where
  prv := S.prv
  ex := S.ex
  len := by rw [List.length_set, List.length_set]; exact S.len
  dat := fun j d h => by
    rcases set_get h with ⟨e, e2, e3⟩ | ⟨e, h⟩
    · obtain ⟨x, q, r⟩ := hd d e2.symm
      subst e
      refine ⟨x, ?_, r⟩
      rw [get_set (by rw [← S.len]; exact e3), q]
    · obtain ⟨x, q, r⟩ := S.dat j d h
      exact ⟨x, by rw [get_set_ne e]; exact q, r⟩
  own := fun j ds h => by
    rcases set_get h with ⟨e, e2, e3⟩ | ⟨e, h⟩
    · obtain ⟨p, xs, q, r, s, t, _⟩ := ho ds e2.symm
      subst e
      exact ⟨p, xs, by rw [get_set (by rw [← S.len]; exact e3), q], r, s, t⟩
    · obtain ⟨p, xs, q, r⟩ := S.own j ds h
      exact ⟨p, xs, by rw [get_set_ne e]; exact q, r⟩
  inj := fun a b ds ds' p ha hb va vb => by
    rcases set_get ha with ⟨e, e2, e3⟩ | ⟨e, ha'⟩
    · rcases set_get hb with ⟨f, f2, f3⟩ | ⟨f, hb'⟩
      · rw [e, f]
      · exfalso
        obtain ⟨p', xs, q, _, _, _, no⟩ := ho ds e2.symm
        subst e
        rw [get_set (by rw [← S.len]; exact e3), q] at va
        cases va
        rw [get_set_ne f] at vb
        exact no b ds' f hb' vb
    · rcases set_get hb with ⟨f, f2, f3⟩ | ⟨f, hb'⟩
      · exfalso
        obtain ⟨p', xs, q, _, _, _, no⟩ := ho ds' f2.symm
        subst f
        rw [get_set (by rw [← S.len]; exact f3), q] at vb
        cases vb
        rw [get_set_ne e] at va
        exact no a ds e ha' va
      · rw [get_set_ne e] at va
        rw [get_set_ne f] at vb
        exact S.inj a b ds ds' p ha' hb' va vb
  rng := fun j lo hi h => by
    rcases set_get h with ⟨e, e2, e3⟩ | ⟨e, h⟩
    · obtain ⟨p, q, r⟩ := hr lo hi e2.symm
      subst e
      exact ⟨p, by rw [get_set (by rw [← S.len]; exact e3), q], r⟩
    · obtain ⟨p, q, r⟩ := S.rng j lo hi h
      exact ⟨p, by rw [get_set_ne e]; exact q, r⟩
theorem SE.putDat (S : SE K G H σ es) (i : Nat) {v : V} {d : PyData} (h : Dp K G v d) : SE K G H (σ.set i (some v)) (es.set i (.dat d)) :=
  S.put i _ _ (fun d' e => by cases e; exact ⟨v, rfl, h⟩) (fun _ e => nomatch e) (fun _ _ e => nomatch e)
theorem SE.putNo (S : SE K G H σ es) (i : Nat) (v : Option V) : SE K G H (σ.set i v) (es.set i .no) := S.put i _ _ (fun d' e => nomatch e) (fun _ e => nomatch e) (fun _ _ e => nomatch e)
theorem SE.putRng (S : SE K G H σ es) (i : Nat) {p : Addr} {lo hi : Int} (h : G p = some (.rng lo hi)) : SE K G H (σ.set i (some (.ref p))) (es.set i (.rng lo hi)) :=
  S.put i _ _ (fun d' e => nomatch e) (fun _ e => nomatch e) (fun _ _ e => by cases e; exact ⟨p, rfl, h⟩)
/-- a new list of one's own: it was free ahead of H -/
theorem SE.putOwn (S : SE K G H σ es) (i : Nat) {p : Addr} {xs : List V} {ds : List PyData} (e : Ex H H2) (hn : H p = none) (hp : H2 p = some (.lst xs)) (hd : DpAll K (hide p (Pu.grow G H H2)) xs ds) :
    SE K (hide p (Pu.grow G H H2)) H2 (σ.set i (some (.ref p))) (es.set i (.own ds)) := by
  have gp : G p = none := by
    cases q : G p with
    | none => rfl
    | some o =>
      rw [S.ex p o q] at hn
      cases hn
  have S2 : SE K (hide p (Pu.grow G H H2)) H2 σ es := S.re (ex_hide (ex_grow S.ex e) gp) (hide_ex.trans grow_ex) e (fun q xs h1 h2 => by
    by_cases z : q = p
    · rw [z, hide_self]
    · rw [hide_ne z, grow_priv h1 h2]) (fun a o h1 h2 => by
    by_cases z : a = p
    · rw [z, hp] at h2
      cases h2
      trivial
    · rw [hide_ne z] at h1
      exact prv_grow S.prv e a o h1 h2)
  refine S2.put i _ _ (fun d' e => nomatch e) (fun ds' e' => ?_) (fun _ _ e => nomatch e)
  cases e'
  refine ⟨p, xs, rfl, hide_self, hp, hd, fun j ds' _ hj z => ?_⟩
  obtain ⟨p', xs', q, _, r, _⟩ := S.own j ds' hj
  rw [z] at q
  cases q
  rw [hn] at r
  cases r
/-- a list of one's own changes -/
theorem SE.write (S : SE K G H σ es) {i : Nat} {p : Addr} {xs : List V} {ds ds' : List PyData} (hi : es[i]? = some (Ent.own ds)) (hv : σ[i]? = some (some (V.ref p))) (hd : DpAll K G xs ds') :
    SE K G (upd H p (.lst xs)) σ (es.set i (.own ds')) := by
  obtain ⟨p0, xs0, q0, gp, hp0, _⟩ := S.own i ds hi
  rw [hv] at q0
  cases q0
  have hi' : i < es.length := (List.getElem?_eq_some_iff.mp hi).1
  refine ⟨fun a o h => ?_, by rw [List.length_set]; exact S.len, fun j d h => ?_, fun j ds2 h => ?_, fun a b d1 d2 q ha hb va vb => ?_, fun j lo hi2 h => ?_, fun a o h1 h2 => ?_⟩
  · rw [upd_ne (ne_of_none h gp)]
    exact S.ex a o h
  · rcases set_get h with ⟨e, e2, e3⟩ | ⟨e, h⟩
    · cases e2
    · exact S.dat j d h
  · rcases set_get h with ⟨e, e2, e3⟩ | ⟨e, h⟩
    · cases e2
      subst e
      exact ⟨p, xs, hv, gp, upd_same, hd⟩
    · obtain ⟨p', xs', q, r, t, u⟩ := S.own j ds2 h
      refine ⟨p', xs', q, r, ?_, u⟩
      have ne : p' ≠ p := fun z => by
        subst z
        exact e (S.inj j i _ _ _ h hi q hv)
      rw [upd_ne ne]
      exact t
  · have old : ∀ {c : Nat} {d : List PyData}, (es.set i (.own ds'))[c]? = some (Ent.own d) → ∃ d', es[c]? = some (Ent.own d') := fun {c d} h => by
      rcases set_get h with ⟨e, _, _⟩ | ⟨e, h⟩
      · exact ⟨ds, by rw [e]; exact hi⟩
      · exact ⟨d, h⟩
    obtain ⟨d1', ha⟩ := old ha
    obtain ⟨d2', hb⟩ := old hb
    exact S.inj a b _ _ _ ha hb va vb
  · rcases set_get h with ⟨e, e2, e3⟩ | ⟨e, h⟩
    · cases e2
    · exact S.rng j lo hi2 h
  · by_cases z : a = p
    · rw [z, upd_same] at h2
      cases h2
      trivial
    · rw [upd_ne z] at h2
      exact S.prv a o h1 h2
/-- the slots of a comprehension's own names -/
def wipeE (es : Es) : List Nat → Es
  | [] => es
  | v :: vs => (wipeE es vs).set v .no
theorem SE.wipe (S : SE K G H σ es) : ∀ vs : List Nat, SE K G H (L2.wipe σ vs) (wipeE es vs)
  | [] => S
  | v :: vs => (S.wipe vs).putNo v none
/-- a list of one's own is shared from here on -/
theorem SE.share (S : SE K G H σ es) {i : Nat} {ds : List PyData} (hi : es[i]? = some (Ent.own ds)) : ∃ G', Ex G G' ∧ SE K G' H σ (es.set i (.dat (.list ds))) := by
  obtain ⟨p, xs, hv, gp, hp, hd⟩ := S.own i ds hi
  have hi' : i < es.length := (List.getElem?_eq_some_iff.mp hi).1
  refine ⟨upd G p (.lst xs), Ex.new gp, fun a o h => ?_, by rw [List.length_set]; exact S.len, fun j d h => ?_, fun j ds2 h => ?_, fun a b d1 d2 q ha hb va vb => ?_, fun j lo hi2 h => ?_, fun a o h1 h2 => ?_⟩
  · by_cases z : a = p
    · subst z
      rw [upd_same] at h
      cases h
      exact hp
    · rw [upd_ne z] at h
      exact S.ex a o h
  · rcases set_get h with ⟨e, e2, e3⟩ | ⟨e, h⟩
    · cases e2
      subst e
      exact ⟨.ref p, hv, .lst (.inl (.inl upd_same)) (hd.up (Ex.new gp))⟩
    · obtain ⟨v, q, r⟩ := S.dat j d h
      exact ⟨v, q, r.up (Ex.new gp)⟩
  · rcases set_get h with ⟨e, e2, e3⟩ | ⟨e, h⟩
    · cases e2
    · obtain ⟨p', xs', q, r, t, u⟩ := S.own j ds2 h
      have ne : p' ≠ p := fun z => by
        subst z
        exact e (S.inj j i _ _ _ h hi q hv)
      exact ⟨p', xs', q, by rw [upd_ne ne]; exact r, t, u.up (Ex.new gp)⟩
  · have old : ∀ {c : Nat} {d : List PyData}, (es.set i (.dat (.list ds)))[c]? = some (Ent.own d) → es[c]? = some (Ent.own d) := fun {c d} h => by
      rcases set_get h with ⟨e, e2, _⟩ | ⟨e, h⟩
      · cases e2
      · exact h
    exact S.inj a b _ _ _ (old ha) (old hb) va vb
  · rcases set_get h with ⟨e, e2, e3⟩ | ⟨e, h⟩
    · cases e2
    · obtain ⟨p', q, r⟩ := S.rng j lo hi2 h
      exact ⟨p', q, (Ex.new gp) _ _ r⟩
  · by_cases z : a = p
    · rw [z, upd_same] at h1
      cases h1
    · rw [upd_ne z] at h1
      exact S.prv a o h1 h2
end
end Pu

namespace Pu
open PySem PySem.Spec L2 Evl

/-! ### what expressions give -/
section
variable (K : PySem.W.Frag)
/-- shared data | data that may hang on a private list | a new list -/
structure EvE (te : TE) (es : Es) (d : PyData) : Prop where
  run : ∀ {G H : Hp} {σ : L2.St}, SE K G H σ es → ∀ {H1 : Hp}, Ex H H1 → ∀ {Q : VK}, (∀ v H2, Ex H1 H2 → Dp K (grow G H H2) v d → Q v H2) → te σ H1 Q
structure EvX (te : TE) (es : Es) (d : PyData) : Prop where
  run : ∀ {G H : Hp} {σ : L2.St}, SE K G H σ es → ∀ {H1 : Hp}, Ex H H1 → ∀ {Q : VK}, (∀ v H2, Ex H1 H2 → Dp K H2 v d → Q v H2) → te σ H1 Q
structure EvF (te : TE) (es : Es) (ds : List PyData) : Prop where
  run : ∀ {G H : Hp} {σ : L2.St}, SE K G H σ es → ∀ {H1 : Hp}, Ex H H1 → ∀ {Q : VK}, (∀ p xs H2, H1 p = none → Ex H1 H2 → H2 p = some (.lst xs) → DpAll K (hide p (grow G H H2)) xs ds → Q (.ref p) H2) → te σ H1 Q
structure EvB (tt : TT) (es : Es) (b : Bool) : Prop where
  run : ∀ {G H : Hp} {σ : L2.St}, SE K G H σ es → ∀ {H1 : Hp}, Ex H H1 → ∀ {Q : Bool → Hp → Prop}, (∀ H2, Ex H1 H2 → Q b H2) → tt σ H1 Q
/-- arguments: weak, strong -/
structure EvA (ta : TA) (es : Es) (ds : List PyData) : Prop where
  run : ∀ {G H : Hp} {σ : L2.St}, SE K G H σ es → ∀ {H1 : Hp}, Ex H H1 → ∀ {Q : List V → Hp → Prop}, (∀ vs H2, Ex H1 H2 → DpAll K H2 vs ds → Q vs H2) → ta σ H1 Q
structure EvS (ta : TA) (es : Es) (ds : List PyData) : Prop where
  run : ∀ {G H : Hp} {σ : L2.St}, SE K G H σ es → ∀ {H1 : Hp}, Ex H H1 → ∀ {Q : List V → Hp → Prop}, (∀ vs H2, Ex H1 H2 → DpAll K (grow G H H2) vs ds → Q vs H2) → ta σ H1 Q
/-- a slice's bound -/
structure EvO (to : TO) (es : Es) (o : Option Int) : Prop where
  run : ∀ {G H : Hp} {σ : L2.St}, SE K G H σ es → ∀ {H1 : Hp}, Ex H H1 → ∀ {Q : Option Int → Hp → Prop}, (∀ H2, Ex H1 H2 → Q o H2) → to σ H1 Q
end
/-- a scalar as data -/
def scD : V → PyData
  | .bl b => .bool b
  | .int i => .int i
  | .str s => .str s
  | _ => .none
section
variable {K : PySem.W.Frag} {es : Es} {ta tb tc : TE} {t u : TT} {d e : PyData} {ds : List PyData}
theorem ev_weak (h : EvE K ta es d) : EvX K ta es d := .mk fun {_ _ _} S {_} e1 {_} q => h.1 S e1 fun v H2 e2 hd => q v H2 e2 (hd.up grow_ex)
theorem ev_fresh (h : EvF K ta es ds) : EvE K ta es (.list ds) := .mk fun {G H σ} S {H1} e1 {Q} q => h.1 S e1 fun p xs H2 n e2 hp hd => q _ _ e2 (.lst (.inl (.inl (by
  have hn : H p = none := fresh_back e1 n
  rw [grow_new hn]
  exact hp))) (hd.up hide_ex))
theorem ev_var {i : Nat} (h : es[i]? = some (Ent.dat d)) : EvE K (tVar i) es d := .mk fun {G H σ} S {H1} e1 {Q} q => by
  obtain ⟨v, hv, hd⟩ := S.dat i d h
  exact ⟨v, hv, q v H1 (Ex.refl _) (hd.up (ex_grow S.ex e1))⟩
theorem ev_varO {i : Nat} (h : es[i]? = some (Ent.own ds)) : EvX K (tVar i) es (.list ds) := .mk fun {G H σ} S {H1} e1 {Q} q => by
  obtain ⟨p, xs, hv, gp, hp, hd⟩ := S.own i ds h
  exact ⟨_, hv, q _ H1 (Ex.refl _) (.lst (.inl (.inl (e1 _ _ hp))) (hd.up (S.ex.trans e1)))⟩
theorem ev_int {i : Int} : EvE K (tC (.int i)) es (.int i) := .mk fun {_ _ _} S {_} _ {_} q => q _ _ (Ex.refl _) (.int i)
theorem ev_bl {b : Bool} : EvE K (tC (.bl b)) es (.bool b) := .mk fun {_ _ _} S {_} _ {_} q => q _ _ (Ex.refl _) (.bl b)
theorem ev_str {x : Str} : EvE K (tC (.str x)) es (.str x) := .mk fun {_ _ _} S {_} _ {_} q => q _ _ (Ex.refl _) (.str x)
theorem ev_non : EvE K (tC .non) es .none := .mk fun {_ _ _} S {_} _ {_} q => q _ _ (Ex.refl _) .non
/-- a value of the module that is known -/
theorem ev_glob {v : V} (h : Dp K (fun _ => none) v d) : EvE K (tC v) es d := .mk fun {_ _ _} S {_} _ {_} q => q _ _ (Ex.refl _) (h.up fun _ _ z => nomatch z)
theorem ev_is {d' : PyData} (h : EvE K ta es d) (e : d = d') : EvE K ta es d' := e ▸ h
theorem ev_isX {d' : PyData} (h : EvX K ta es d) (e : d = d') : EvX K ta es d' := e ▸ h
theorem ev_isF {ds' : List PyData} (h : EvF K ta es ds) (e : ds = ds') : EvF K ta es ds' := e ▸ h
theorem eb_is {b c : Bool} (h : EvB K t es b) (e : b = c) : EvB K t es c := e ▸ h
theorem dp_int {H : Hp} {v : V} {i : Int} (h : Dp K H v (.int i)) : v = .int i := by cases h; rfl
theorem dp_bl {H : Hp} {v : V} {b : Bool} (h : Dp K H v (.bool b)) : v = .bl b := by cases h; rfl
theorem dp_str {H : Hp} {v : V} {x : Str} (h : Dp K H v (.str x)) : v = .str x := by cases h; rfl
theorem dp_non {H : Hp} {v : V} (h : Dp K H v .none) : v = .non := by cases h; rfl
theorem dp_lst {H : Hp} {v : V} (h : Dp K H v (.list ds)) : ∃ p xs, v = .ref p ∧ SqL K H p xs ∧ DpAll K H xs ds := by
  cases h with
  | lst a b => exact ⟨_, _, rfl, a, b⟩
theorem dp_tup {H : Hp} {v : V} (h : Dp K H v (.tuple ds)) : ∃ p xs, v = .ref p ∧ SqT K H p xs ∧ DpAll K H xs ds := by
  cases h with
  | tup a b => exact ⟨_, _, rfl, a, b⟩
theorem dpa_nil {H : Hp} {vs : List V} (h : DpAll K H vs []) : vs = [] := by cases h; rfl
theorem dpa_cons {H : Hp} {vs : List V} (h : DpAll K H vs (d :: ds)) : ∃ v r, vs = v :: r ∧ Dp K H v d ∧ DpAll K H r ds := by
  cases h with
  | cons a b => exact ⟨_, _, rfl, a, b⟩
theorem dpa_one {H : Hp} {vs : List V} (h : DpAll K H vs [d]) : ∃ v, vs = [v] ∧ Dp K H v d := by
  obtain ⟨v, r, rfl, a, b⟩ := dpa_cons h
  rw [dpa_nil b]
  exact ⟨v, rfl, a⟩
theorem dpa_two {H : Hp} {vs : List V} (h : DpAll K H vs [d, e]) : ∃ v w, vs = [v, w] ∧ Dp K H v d ∧ Dp K H w e := by
  obtain ⟨v, r, rfl, a, b⟩ := dpa_cons h
  obtain ⟨w, rfl, c⟩ := dpa_one b
  exact ⟨v, w, rfl, a, c⟩
/-! operators on values -/
theorem ev_op2 {r : R2} {z : PyData} (ha : EvX K ta es d) (hb : EvX K tb es e) (hr : ∀ x y H, Dp K H x d → Dp K H y e → ∀ Q : VK, (∀ v, (∀ G, Dp K G v z) → Q v H) → r x y H Q) : EvE K (tOp r ta tb) es z := .mk fun {G H σ} S {H1} e1 {Q} q =>
  ha.1 S e1 fun x H2 e2 hx => hb.1 S (e1.trans e2) fun y H3 e3 hy => hr x y H3 (hx.up e3) hy Q fun v hv => q v H3 (e2.trans e3) (hv _)
theorem ev_I0 {g : Int → Int → V} {i j k : Int} (ha : EvX K ta es (.int i)) (hb : EvX K tb es (.int j)) (hg : g i j = .int k) : EvE K (tOp (rI0 g) ta tb) es (.int k) :=
  ev_op2 ha hb fun x y H hx hy Q q => ⟨i, j, dp_int hx, dp_int hy, by rw [hg]; exact q _ fun _ => .int k⟩
theorem ev_I0b {g : Int → Int → V} {i j : Int} {b : Bool} (ha : EvX K ta es (.int i)) (hb : EvX K tb es (.int j)) (hg : g i j = .bl b) : EvE K (tOp (rI0 g) ta tb) es (.bool b) :=
  ev_op2 ha hb fun x y H hx hy Q q => ⟨i, j, dp_int hx, dp_int hy, by rw [hg]; exact q _ fun _ => .bl b⟩
theorem ev_I {C : Int → Int → Prop} {g : Int → Int → V} {i j k : Int} (ha : EvX K ta es (.int i)) (hb : EvX K tb es (.int j)) (hg : g i j = .int k) (hc : C i j) : EvE K (tOp (rI C g) ta tb) es (.int k) :=
  ev_op2 ha hb fun x y H hx hy Q q => ⟨i, j, dp_int hx, dp_int hy, hc, by rw [hg]; exact q _ fun _ => .int k⟩
theorem ev_neg {i : Int} {g : Int → V} {k : Int} (ha : EvX K ta es (.int i)) (hg : g i = .int k) : EvE K (tUn (rU g) ta) es (.int k) := .mk fun {G H σ} S {H1} e1 {Q} q =>
  ha.1 S e1 fun x H2 e2 hx => ⟨i, dp_int hx, by rw [hg]; exact q _ H2 e2 (.int k)⟩
theorem ev_eqI {i j : Int} (ha : EvX K ta es (.int i)) (hb : EvX K tb es (.int j)) : EvE K (tOp rEq ta tb) es (.bool (decide (i = j))) :=
  ev_op2 ha hb fun x y H hx hy Q q => by
    rw [dp_int hx, dp_int hy]
    refine ⟨rfl, ?_⟩
    have e : decide (V.int i = V.int j) = decide (i = j) := by
      by_cases h : i = j
      · rw [h, decide_eq_true rfl, decide_eq_true rfl]
      · rw [decide_eq_false h, decide_eq_false fun z => h (V.int.inj z)]
    rw [e]
    exact q _ fun _ => .bl _
theorem ev_eqS {i j : Str} (ha : EvX K ta es (.str i)) (hb : EvX K tb es (.str j)) : EvE K (tOp rEq ta tb) es (.bool (decide (i = j))) :=
  ev_op2 ha hb fun x y H hx hy Q q => by
    rw [dp_str hx, dp_str hy]
    refine ⟨rfl, ?_⟩
    have e : decide (V.str i = V.str j) = decide (i = j) := by
      by_cases h : i = j
      · rw [h, decide_eq_true rfl, decide_eq_true rfl]
      · rw [decide_eq_false h, decide_eq_false fun z => h (V.str.inj z)]
    rw [e]
    exact q _ fun _ => .bl _
theorem ev_eqB {i j : Bool} (ha : EvX K ta es (.bool i)) (hb : EvX K tb es (.bool j)) : EvE K (tOp rEq ta tb) es (.bool (decide (i = j))) :=
  ev_op2 ha hb fun x y H hx hy Q q => by
    rw [dp_bl hx, dp_bl hy]
    refine ⟨rfl, ?_⟩
    have e : decide (V.bl i = V.bl j) = decide (i = j) := by
      by_cases h : i = j
      · rw [h, decide_eq_true rfl, decide_eq_true rfl]
      · rw [decide_eq_false h, decide_eq_false fun z => h (V.bl.inj z)]
    rw [e]
    exact q _ fun _ => .bl _
theorem ev_neI {i j : Int} (ha : EvX K ta es (.int i)) (hb : EvX K tb es (.int j)) : EvE K (tOp rNe ta tb) es (.bool (!decide (i = j))) :=
  ev_op2 ha hb fun x y H hx hy Q q => by
    rw [dp_int hx, dp_int hy]
    refine ⟨rfl, ?_⟩
    have e : decide (V.int i = V.int j) = decide (i = j) := by
      by_cases h : i = j
      · rw [h, decide_eq_true rfl, decide_eq_true rfl]
      · rw [decide_eq_false h, decide_eq_false fun z => h (V.int.inj z)]
    rw [e]
    exact q _ fun _ => .bl _
theorem ev_neS {i j : Str} (ha : EvX K ta es (.str i)) (hb : EvX K tb es (.str j)) : EvE K (tOp rNe ta tb) es (.bool (!decide (i = j))) :=
  ev_op2 ha hb fun x y H hx hy Q q => by
    rw [dp_str hx, dp_str hy]
    refine ⟨rfl, ?_⟩
    have e : decide (V.str i = V.str j) = decide (i = j) := by
      by_cases h : i = j
      · rw [h, decide_eq_true rfl, decide_eq_true rfl]
      · rw [decide_eq_false h, decide_eq_false fun z => h (V.str.inj z)]
    rw [e]
    exact q _ fun _ => .bl _
theorem ev_eqD (ha : EvX K ta es d) (hb : EvX K tb es e) (s1 : SeqAt.shaped d = true) (s2 : SeqAt.shaped e = true) : EvE K (tOp (rEqD K) ta tb) es (.bool (PyData.eqv d e)) :=
  ev_op2 ha hb fun x y H hx hy Q q => ⟨d, e, hx, hy, s1, s2, q _ fun _ => .bl _⟩
theorem ev_neD (ha : EvX K ta es d) (hb : EvX K tb es e) (s1 : SeqAt.shaped d = true) (s2 : SeqAt.shaped e = true) : EvE K (tOp (rNeD K) ta tb) es (.bool (!PyData.eqv d e)) :=
  ev_op2 ha hb fun x y H hx hy Q q => ⟨d, e, hx, hy, s1, s2, q _ fun _ => .bl _⟩
/-! items -/
theorem ev_ixT {i : Int} (ha : EvE K ta es (.tuple ds)) (hb : EvX K tb es (.int i)) (hi : atI ds i = some d) : EvE K (tOp (rIxT K) ta tb) es d := .mk fun {G H σ} S {H1} e1 {Q} q =>
  ha.1 S e1 fun x H2 e2 hx => hb.1 S (e1.trans e2) fun y H3 e3 hy => by
    obtain ⟨p, xs, rfl, hs, hd⟩ := dp_tup (hx.up (grow_mono e3))
    obtain ⟨v, hv, hdv⟩ := dpa_ix hd hi
    exact ⟨p, xs, i, v, rfl, dp_int hy, ex_t grow_ex hs, hv, q v H3 (e2.trans e3) hdv⟩
theorem ev_ixL {i : Int} (ha : EvE K ta es (.list ds)) (hb : EvX K tb es (.int i)) (hi : atI ds i = some d) : EvE K (tOp (rIxL K) ta tb) es d := .mk fun {G H σ} S {H1} e1 {Q} q =>
  ha.1 S e1 fun x H2 e2 hx => hb.1 S (e1.trans e2) fun y H3 e3 hy => by
    obtain ⟨p, xs, rfl, hs, hd⟩ := dp_lst (hx.up (grow_mono e3))
    obtain ⟨v, hv, hdv⟩ := dpa_ix hd hi
    exact ⟨p, xs, i, v, rfl, dp_int hy, ex_l grow_ex hs, hv, q v H3 (e2.trans e3) hdv⟩
theorem ev_ixO {k : Nat} {i : Int} (ha : es[k]? = some (Ent.own ds)) (hb : EvX K tb es (.int i)) (hi : atI ds i = some d) : EvE K (tOp (rIxL K) (tVar k) tb) es d := .mk fun {G H σ} S {H1} e1 {Q} q => by
  obtain ⟨p, xs, hv, gp, hp, hd⟩ := S.own k ds ha
  refine ⟨_, hv, hb.1 S e1 fun y H3 e3 hy => ?_⟩
  obtain ⟨v, hv, hdv⟩ := dpa_ix hd hi
  exact ⟨p, xs, i, v, rfl, dp_int hy, .inl (.inl (e3 _ _ (e1 _ _ hp))), hv, q v H3 e3 (hdv.up (ex_grow S.ex (e1.trans e3)))⟩
/-! arguments, displays -/
theorem ea_nil : EvA K tNil es [] := .mk fun {_ _ _} S {_} _ {_} q => q _ _ (Ex.refl _) .nil
theorem ea_cons {tr : TA} (h : EvX K ta es d) (hr : EvA K tr es ds) : EvA K (tCons ta tr) es (d :: ds) := .mk fun {_ _ _} S {_} e1 {_} q =>
  h.1 S e1 fun x H2 e2 hx => hr.1 S (e1.trans e2) fun xs H3 e3 hxs => q _ _ (e2.trans e3) (.cons (hx.up e3) hxs)
theorem es_nil : EvS K tNil es [] := .mk fun {_ _ _} S {_} _ {_} q => q _ _ (Ex.refl _) .nil
theorem es_cons {tr : TA} (h : EvE K ta es d) (hr : EvS K tr es ds) : EvS K (tCons ta tr) es (d :: ds) := .mk fun {_ _ _} S {_} e1 {_} q =>
  h.1 S e1 fun x H2 e2 hx => hr.1 S (e1.trans e2) fun xs H3 e3 hxs => q _ _ (e2.trans e3) (.cons (hx.up (grow_mono e3)) hxs)
theorem ev_tup {t : TA} (h : EvS K t es ds) (hl : ds.length ≤ 100000) : EvE K (tTup t) es (.tuple ds) := .mk fun {G H σ} S {H1} e1 {Q} q =>
  h.1 S e1 fun xs H2 e2 hx => ⟨sz_of (by rw [dpa_len hx]; exact hl), fun p hp => q _ _ (e2.trans (Ex.new hp)) (.tup (.inl (.inl (by
    rw [grow_new (fresh_back (e1.trans e2) hp)]
    exact upd_same))) (hx.up (grow_mono (Ex.new hp))))⟩
theorem grow_none {G H H2 : Hp} {p : Addr} (h : H2 p = none) : grow G H H2 p = none := by
  cases q : grow G H H2 p with
  | none => rfl
  | some o =>
    rw [grow_ex _ _ q] at h
    cases h
theorem ef_lst {t : TA} (h : EvS K t es ds) (hl : ds.length ≤ 100000) : EvF K (tLst t) es ds := .mk fun {G H σ} S {H1} e1 {Q} q =>
  h.1 S e1 fun xs H2 e2 hx => ⟨sz_of (by rw [dpa_len hx]; exact hl), fun p hp => q p xs _ (fresh_back e2 hp) (e2.trans (Ex.new hp)) upd_same
    (hx.up (ex_hide (grow_mono (Ex.new hp)) (grow_none hp)))⟩
/-! slices -/
theorem eo_none : EvO K tNoPart es none := .mk fun {_ _ _} S {_} _ {_} q => q _ (Ex.refl _)
theorem eo_some {i : Int} (h : EvX K ta es (.int i)) : EvO K (tPart ta) es (some i) := .mk fun {_ _ _} S {_} e1 {_} q => h.1 S e1 fun x H2 e2 hx => ⟨i, dp_int hx, q H2 e2⟩
def cutD (ds : List PyData) (lo hi : Option Int) : List PyData := (ds.drop (HT.sIx ds.length 0 lo)).take (HT.sIx ds.length ds.length hi - HT.sIx ds.length 0 lo)
theorem dpa_cut {H : Hp} {xs : List V} {lo hi : Option Int} (h : DpAll K H xs ds) : DpAll K H (cutV xs lo hi) (cutD ds lo hi) := by
  unfold cutV cutD
  rw [dpa_len h]
  exact dpa_take _ (dpa_drop _ h)
theorem ev_slT {tl th : TO} {lo hi : Option Int} (ha : EvE K ta es (.tuple ds)) (hl : EvO K tl es lo) (hh : EvO K th es hi) (hn : ¬ (HT.sIx ds.length 0 lo = 0 ∧ HT.sIx ds.length ds.length hi = ds.length)) :
    EvE K (tSl (rSlT K) ta tl th) es (.tuple (cutD ds lo hi)) := .mk fun {G H σ} S {H1} e1 {Q} q =>
  ha.1 S e1 fun x H2 e2 hx => hl.1 S (e1.trans e2) fun H3 e3 => hh.1 S ((e1.trans e2).trans e3) fun H4 e4 => by
    obtain ⟨p, xs, rfl, hs, hd⟩ := dp_tup (hx.up (grow_mono (e3.trans e4)))
    refine ⟨p, xs, rfl, ex_t grow_ex hs, by rw [dpa_len hd]; exact hn, fun r hr => q _ _ (((e2.trans e3).trans e4).trans (Ex.new hr)) (.tup (.inl (.inl ?_)) ((dpa_cut hd).up (grow_mono (Ex.new hr))))⟩
    rw [grow_new (fresh_back (((e1.trans e2).trans e3).trans e4) hr)]
    exact upd_same
theorem ef_slL {tl th : TO} {lo hi : Option Int} (ha : EvE K ta es (.list ds)) (hl : EvO K tl es lo) (hh : EvO K th es hi) : EvF K (tSl (rSlL K) ta tl th) es (cutD ds lo hi) := .mk fun {G H σ} S {H1} e1 {Q} q =>
  ha.1 S e1 fun x H2 e2 hx => hl.1 S (e1.trans e2) fun H3 e3 => hh.1 S ((e1.trans e2).trans e3) fun H4 e4 => by
    obtain ⟨p, xs, rfl, hs, hd⟩ := dp_lst (hx.up (grow_mono (e3.trans e4)))
    exact ⟨p, xs, rfl, ex_l grow_ex hs, fun r hr => q r _ _ (fresh_back ((e2.trans e3).trans e4) hr) (((e2.trans e3).trans e4).trans (Ex.new hr)) upd_same
      ((dpa_cut hd).up (ex_hide (grow_mono (Ex.new hr)) (grow_none hr)))⟩
theorem ef_slO {k : Nat} {tl th : TO} {lo hi : Option Int} (ha : es[k]? = some (Ent.own ds)) (hl : EvO K tl es lo) (hh : EvO K th es hi) : EvF K (tSl (rSlL K) (tVar k) tl th) es (cutD ds lo hi) := .mk fun {G H σ} S {H1} e1 {Q} q => by
  obtain ⟨p, xs, hv, gp, hp, hd⟩ := S.own k ds ha
  refine ⟨_, hv, hl.1 S e1 fun H3 e3 => hh.1 S (e1.trans e3) fun H4 e4 => ?_⟩
  exact ⟨p, xs, rfl, .inl (.inl (e4 _ _ (e3 _ _ (e1 _ _ hp)))), fun r hr => q r _ _ (fresh_back (e3.trans e4) hr) ((e3.trans e4).trans (Ex.new hr)) upd_same
    ((dpa_cut hd).up (ex_hide (ex_grow S.ex (((e1.trans e3).trans e4).trans (Ex.new hr))) (fresh_back (((S.ex.trans e1).trans e3).trans e4) hr)))⟩
/-! calls of built-ins -/
theorem ev_cb1 {r : List V → Hp → VK → Prop} {z : PyData} (ha : EvX K ta es d) (hr : ∀ x H, Dp K H x d → ∀ Q : VK, (∀ v, (∀ G, Dp K G v z) → Q v H) → r [x] H Q) : EvE K (tCB r (tCons ta tNil)) es z := .mk fun {G H σ} S {H1} e1 {Q} q =>
  ha.1 S e1 fun x H2 e2 hx => hr x H2 hx Q fun v hv => q v H2 e2 (hv _)
theorem ev_cb2 {r : List V → Hp → VK → Prop} {z : PyData} (ha : EvX K ta es d) (hb : EvX K tb es e) (hr : ∀ x y H, Dp K H x d → Dp K H y e → ∀ Q : VK, (∀ v, (∀ G, Dp K G v z) → Q v H) → r [x, y] H Q) : EvE K (tCB r (tCons ta (tCons tb tNil))) es z := .mk fun {G H σ} S {H1} e1 {Q} q =>
  ha.1 S e1 fun x H2 e2 hx => hb.1 S (e1.trans e2) fun y H3 e3 hy => hr x y H3 (hx.up e3) hy Q fun v hv => q v H3 (e2.trans e3) (hv _)
theorem ev_lenL (ha : EvX K ta es (.list ds)) : EvE K (tCB (rLenS K) (tCons ta tNil)) es (.int (ds.length : Int)) := ev_cb1 ha fun x H hx Q q => by
  obtain ⟨p, xs, rfl, hs, hd⟩ := dp_lst hx
  refine ⟨p, xs, rfl, .inl hs, ?_⟩
  rw [dpa_len hd]
  exact q _ fun _ => .int _
theorem ev_lenT (ha : EvX K ta es (.tuple ds)) : EvE K (tCB (rLenS K) (tCons ta tNil)) es (.int (ds.length : Int)) := ev_cb1 ha fun x H hx Q q => by
  obtain ⟨p, xs, rfl, hs, hd⟩ := dp_tup hx
  refine ⟨p, xs, rfl, .inr hs, ?_⟩
  rw [dpa_len hd]
  exact q _ fun _ => .int _
def rMin2 : List V → Hp → VK → Prop := fun xs H Q => ∃ i j, xs = [.int i, .int j] ∧ Q (.int (if j < i then j else i)) H
theorem ev_min2 {i j : Int} (ha : EvX K ta es (.int i)) (hb : EvX K tb es (.int j)) : EvE K (tCB rMin2 (tCons ta (tCons tb tNil))) es (.int (min i j)) := ev_cb2 ha hb fun x y H hx hy Q q => by
  refine ⟨i, j, by rw [dp_int hx, dp_int hy], ?_⟩
  rw [show (if j < i then j else i) = min i j by split <;> omega]
  exact q _ fun _ => .int _
theorem ev_max2 {i j : Int} (ha : EvX K ta es (.int i)) (hb : EvX K tb es (.int j)) : EvE K (tCB rMax2 (tCons ta (tCons tb tNil))) es (.int (max i j)) := ev_cb2 ha hb fun x y H hx hy Q q => by
  refine ⟨i, j, by rw [dp_int hx, dp_int hy], ?_⟩
  rw [show (if j > i then j else i) = max i j by split <;> omega]
  exact q _ fun _ => .int _
theorem dpa_ints {H : Hp} : ∀ {ns : List Int} {xs : List V}, DpAll K H xs (ns.map PyData.int) → xs = ns.map V.int
  | [], _, h => dpa_nil h
  | n :: ns, _, h => by
    obtain ⟨v, r, rfl, a, b⟩ := dpa_cons h
    rw [dp_int a, dpa_ints b]
    rfl
theorem ev_minL {ns : List Int} {m : Int} (ha : EvX K ta es (.list (ns.map PyData.int))) (hm : m ∈ ns) (hle : ∀ y ∈ ns, m ≤ y) : EvE K (tCB (rMin K) (tCons ta tNil)) es (.int m) := ev_cb1 ha fun x H hx Q q => by
  obtain ⟨p, xs, rfl, hs, hd⟩ := dp_lst hx
  rw [dpa_ints (xs := xs) hd] at hs
  refine ⟨p, ns, rfl, hs, List.length_pos_of_mem hm, fun k hk hk' => ?_⟩
  have e : k = m := by
    have h1 := hk' m hm
    have h2 := hle k hk
    omega
  rw [e]
  exact q _ fun _ => .int _
theorem ev_maxL {ns : List Int} {m : Int} (ha : EvX K ta es (.list (ns.map PyData.int))) (hm : m ∈ ns) (hle : ∀ y ∈ ns, y ≤ m) : EvE K (tCB (rMax K) (tCons ta tNil)) es (.int m) := ev_cb1 ha fun x H hx Q q => by
  obtain ⟨p, xs, rfl, hs, hd⟩ := dp_lst hx
  rw [dpa_ints (xs := xs) hd] at hs
  refine ⟨p, ns, rfl, hs, List.length_pos_of_mem hm, fun k hk hk' => ?_⟩
  have e : k = m := by
    have h1 := hk' m hm
    have h2 := hle k hk
    omega
  rw [e]
  exact q _ fun _ => .int _
def tyName : PyData → String
  | .none => "NoneType"
  | .bool _ => "bool"
  | .int _ => "int"
  | .str _ => "str"
  | .list _ => "list"
  | .tuple _ => "tuple"
  | .dict _ => "dict"
theorem tyX_of {H : Hp} {v : V} (h : Dp K H v d) : TyX K H v (.type (tyName d)) := by
  cases h with
  | non => exact .base .non
  | bl b => exact .base (.bl b)
  | int i => exact .base (.int i)
  | str x => exact .base (.str x)
  | lst hs _ =>
    rcases hs with (hs | ⟨o, hs⟩) | ⟨o, its, n, h1, h2, _⟩
    · exact .base (.lst hs)
    · exact .base (.frz hs)
    · exact .kList h1 h2
  | tup hs _ =>
    rcases hs with (hs | ⟨o, hs⟩) | ⟨o, its, n, h1, h2, _⟩
    · exact .base (.tup hs)
    · exact .fTuple hs
    · exact .kTuple h1 h2
theorem ev_isi {n : String} {b : Bool} (ha : EvX K ta es d) (hb : kitB (tyName d) n = some b) : EvE K (tCB (rIsi K) (tCons ta (tCons (tC (.ty n)) tNil))) es (.bool b) := .mk fun {G H σ} S {H1} e1 {Q} q =>
  ha.1 S e1 fun x H2 e2 hx => ⟨x, .ty n, _, _, b, rfl, .ty n, tyX_of hx, kit_ty hb, q _ H2 e2 (.bl b)⟩
def rInt1 : List V → Hp → VK → Prop := fun xs H Q => (∃ i, xs = [.int i] ∧ Q (.int i) H) ∨ ∃ k, xs = [.bl k] ∧ Q (.int (if k then 1 else 0)) H
theorem ev_intB {b : Bool} (ha : EvX K ta es (.bool b)) : EvE K (tCB rInt1 (tCons ta tNil)) es (.int (if b then 1 else 0)) := ev_cb1 ha fun x H hx Q q => .inr ⟨b, by rw [dp_bl hx], q _ fun _ => .int _⟩
theorem ef_listL (ha : EvE K ta es (.list ds)) : EvF K (tCB (rListS K) (tCons ta tNil)) es ds := .mk fun {G H σ} S {H1} e1 {Q} q =>
  ha.1 S e1 fun x H2 e2 hx => by
    obtain ⟨p, xs, rfl, hs, hd⟩ := dp_lst hx
    exact ⟨p, xs, rfl, .inl (ex_l grow_ex hs), fun r hr => q r _ _ (fresh_back e2 hr) (e2.trans (Ex.new hr)) upd_same (hd.up (ex_hide (grow_mono (Ex.new hr)) (grow_none hr)))⟩
theorem ef_listT (ha : EvE K ta es (.tuple ds)) : EvF K (tCB (rListS K) (tCons ta tNil)) es ds := .mk fun {G H σ} S {H1} e1 {Q} q =>
  ha.1 S e1 fun x H2 e2 hx => by
    obtain ⟨p, xs, rfl, hs, hd⟩ := dp_tup hx
    exact ⟨p, xs, rfl, .inr (ex_t grow_ex hs), fun r hr => q r _ _ (fresh_back e2 hr) (e2.trans (Ex.new hr)) upd_same (hd.up (ex_hide (grow_mono (Ex.new hr)) (grow_none hr)))⟩
def rTupS (K : PySem.W.Frag) : List V → Hp → VK → Prop := fun xs H Q => ∃ p ys, xs = [.ref p] ∧ ((SqL K H p ys ∧ ∀ l, H l = none → Q (.ref l) (upd H l (.tup ys))) ∨ (SqT K H p ys ∧ Q (.ref p) H))
theorem ev_tupL (ha : EvE K ta es (.list ds)) : EvE K (tCB (rTupS K) (tCons ta tNil)) es (.tuple ds) := .mk fun {G H σ} S {H1} e1 {Q} q =>
  ha.1 S e1 fun x H2 e2 hx => by
    obtain ⟨p, xs, rfl, hs, hd⟩ := dp_lst hx
    refine ⟨p, xs, rfl, .inl ⟨ex_l grow_ex hs, fun r hr => q _ _ (e2.trans (Ex.new hr)) (.tup (.inl (.inl ?_)) (hd.up (grow_mono (Ex.new hr))))⟩⟩
    rw [grow_new (fresh_back (e1.trans e2) hr)]
    exact upd_same
theorem ev_tupO {k : Nat} (ha : es[k]? = some (Ent.own ds)) : EvE K (tCB (rTupS K) (tCons (tVar k) tNil)) es (.tuple ds) := .mk fun {G H σ} S {H1} e1 {Q} q => by
  obtain ⟨p, xs, hv, gp, hp, hd⟩ := S.own k ds ha
  refine ⟨_, hv, p, xs, rfl, .inl ⟨.inl (.inl (e1 _ _ hp)), fun r hr => q _ _ (Ex.new hr) (.tup (.inl (.inl ?_)) (hd.up (ex_grow S.ex (e1.trans (Ex.new hr)))))⟩⟩
  rw [grow_new (fresh_back e1 hr)]
  exact upd_same
/-! tests -/
theorem eb_test {b : Bool} (h : EvX K ta es (.bool b)) : EvB K (tTest ta) es b := .mk fun {_ _ _} S {_} e1 {_} q => h.1 S e1 fun x H2 e2 hx => ⟨b, dp_bl hx, q H2 e2⟩
theorem eb_B {b : Bool} (h : EvX K ta es (.bool b)) : EvB K (tB ta) es b := .mk fun {_ _ _} S {_} e1 {_} q => h.1 S e1 fun x H2 e2 hx => ⟨b, dp_bl hx, q H2 e2⟩
theorem eb_and {a b : Bool} (h1 : EvB K t es a) (h2 : a = true → EvB K u es b) : EvB K (tAnd t u) es (a && b) := .mk fun {_ _ _} S {_} e1 {_} q => h1.1 S e1 fun H2 e2 => by
  cases a with
  | true => exact iteT ((h2 rfl).1 S (e1.trans e2) fun H3 e3 => q H3 (e2.trans e3))
  | false => exact iteF (q H2 e2)
theorem eb_or {a b : Bool} (h1 : EvB K t es a) (h2 : a = false → EvB K u es b) : EvB K (tOr t u) es (a || b) := .mk fun {_ _ _} S {_} e1 {_} q => h1.1 S e1 fun H2 e2 => by
  cases a with
  | true => exact iteT (q H2 e2)
  | false => exact iteF ((h2 rfl).1 S (e1.trans e2) fun H3 e3 => q H3 (e2.trans e3))
theorem eb_not {a : Bool} (h1 : EvB K t es a) : EvB K (tNot t) es (!a) := .mk fun {_ _ _} S {_} e1 {_} q => h1.1 S e1 fun H2 e2 => q H2 e2
theorem ev_andV {a b : Bool} (h1 : EvX K ta es (.bool a)) (h2 : a = true → EvX K tb es (.bool b)) : EvE K (tAndV ta tb) es (.bool (a && b)) := .mk fun {_ _ _} S {_} e1 {_} q => h1.1 S e1 fun x H2 e2 hx => ⟨a, dp_bl hx, by
  cases a with
  | true => exact iteT ((h2 rfl).1 S (e1.trans e2) fun y H3 e3 hy => q y H3 (e2.trans e3) (by rw [dp_bl hy]; exact .bl _))
  | false => exact iteF (q _ H2 e2 (.bl _))⟩
theorem ev_orV {a b : Bool} (h1 : EvX K ta es (.bool a)) (h2 : a = false → EvX K tb es (.bool b)) : EvE K (tOrV ta tb) es (.bool (a || b)) := .mk fun {_ _ _} S {_} e1 {_} q => h1.1 S e1 fun x H2 e2 hx => ⟨a, dp_bl hx, by
  cases a with
  | true => exact iteT (q _ H2 e2 (.bl _))
  | false => exact iteF ((h2 rfl).1 S (e1.trans e2) fun y H3 e3 hy => q y H3 (e2.trans e3) (by rw [dp_bl hy]; exact .bl _))⟩
theorem ev_notV {a : Bool} (h1 : EvX K ta es (.bool a)) : EvE K (tNotV ta) es (.bool (!a)) := .mk fun {_ _ _} S {_} e1 {_} q => h1.1 S e1 fun x H2 e2 hx => ⟨a, dp_bl hx, q _ H2 e2 (.bl _)⟩
def tTru (K : PySem.W.Frag) (ta : TE) : TT := fun σ H Q => ta σ H fun x H' => ∃ k, TruV K x H' k ∧ Q k H'
theorem ev_if {b : Bool} (h : EvB K t es b) (h1 : b = true → EvE K ta es d) (h2 : b = false → EvE K tb es d) : EvE K (tIf t ta tb) es d := .mk fun {_ _ _} S {_} e1 {_} q => h.1 S e1 fun H2 e2 => by
  cases b with
  | true => exact iteT ((h1 rfl).1 S (e1.trans e2) fun y H3 e3 hy => q y H3 (e2.trans e3) hy)
  | false => exact iteF ((h2 rfl).1 S (e1.trans e2) fun y H3 e3 hy => q y H3 (e2.trans e3) hy)
end

/-! ### promises -/
def spF {α : Type} (K : PySem.W.Frag) (args : α → List PyData) (pre : α → Prop) (res : α → PyData) : Sp := fun vs H Q _ => ∃ a : α, DpAll K H vs (args a) ∧ pre a ∧ ∀ v H2, Ex H H2 → Dp K H2 v (res a) → Q v H2
def spL {α : Type} (K : PySem.W.Frag) (args : α → List PyData) (pre : α → Prop) (res : α → List PyData) : Sp := fun vs H Q _ => ∃ a : α, DpAll K H vs (args a) ∧ pre a ∧
  ∀ p xs H2, H p = none → Ex H H2 → H2 p = some (.lst xs) → DpAll K (hide p H2) xs (res a) → Q (.ref p) H2
section
variable {K : PySem.W.Frag} {es : Es} {ta tb tc : TE} {d e : PyData} {ds : List PyData} {α : Type} {args : α → List PyData} {pre : α → Prop}
theorem sqT_grow {G H H2 : Hp} (hg : ∀ a o, G a = none → H a = some o → NT o) (e : Ex H H2) : ExT K H2 (grow G H H2) := fun a xs q => by
  rcases q with (q | ⟨o, q⟩) | q
  · refine .inl (.inl ?_)
    cases g : G a with
    | some o => rw [grow_pub g]; exact q
    | none =>
      cases h : H a with
      | none => rw [grow_new h]; exact q
      | some o =>
        have nt := hg a o g h
        rw [e _ _ h] at q
        cases q
        exact nt.elim
  · refine .inl (.inr ⟨o, ?_⟩)
    cases g : G a with
    | some o' => rw [grow_pub g]; exact q
    | none =>
      cases h : H a with
      | none => rw [grow_new h]; exact q
      | some o' =>
        have nt := hg a o' g h
        rw [e _ _ h] at q
        cases q
        exact nt.elim
  · exact .inr q
theorem exT_hide {p : Addr} {G : Hp} {xs : List V} (h : G p = some (.lst xs)) : ExT K G (hide p G) := fun a ys q => by
  rcases q with (q | ⟨o, q⟩) | q
  · refine .inl (.inl ?_)
    rw [hide_ne fun z => by rw [z, h] at q; cases q]
    exact q
  · refine .inl (.inr ⟨o, ?_⟩)
    rw [hide_ne fun z => by rw [z, h] at q; cases q]
    exact q
  · exact .inr q
theorem ev_call {res : α → PyData} {t : TA} {E : XK} (a : α) (h : EvA K t es (args a)) (hp : pre a) (hi : imm (res a) = true) : EvE K (tCall (spF K args pre res) [] E t) es (res a) := .mk fun {G H σ} S {H1} e1 {Q} q =>
  h.1 S e1 fun vs H2 e2 hd => ⟨a, by rw [List.append_nil]; exact hd, hp, fun v H3 e3 hv => q v H3 (e2.trans e3) (dp_imm (sqT_grow S.prv ((e1.trans e2).trans e3)) _ _ hi hv)⟩
theorem ev_callX {res : α → PyData} {t : TA} {E : XK} (a : α) (h : EvA K t es (args a)) (hp : pre a) : EvX K (tCall (spF K args pre res) [] E t) es (res a) := .mk fun {G H σ} S {H1} e1 {Q} q =>
  h.1 S e1 fun vs H2 e2 hd => ⟨a, by rw [List.append_nil]; exact hd, hp, fun v H3 e3 hv => q v H3 (e2.trans e3) hv⟩
theorem ef_call {res : α → List PyData} {t : TA} {E : XK} (a : α) (h : EvA K t es (args a)) (hp : pre a) (hi : immAll (res a) = true) : EvF K (tCall (spL K args pre res) [] E t) es (res a) := .mk fun {G H σ} S {H1} e1 {Q} q =>
  h.1 S e1 fun vs H2 e2 hd => ⟨a, by rw [List.append_nil]; exact hd, hp, fun p xs H3 n e3 hl hx => q p xs H3 (fresh_back e2 n) (e2.trans e3) hl (by
    have hG : grow G H H3 p = some (.lst xs) := by
      rw [grow_new (fresh_back (e1.trans e2) n)]
      exact hl
    exact dpa_imm (exT_hide hG) _ _ hi (dpa_imm (sqT_grow S.prv ((e1.trans e2).trans e3)) _ _ hi (hx.up hide_ex)))⟩
end

/-! ### statements -/
inductive Rt where
  | val (d : PyData)
  | fresh (ds : List PyData)
structure Post where
  nx : Es → Prop := fun _ => False
  rt : Rt → Prop := fun _ => False
  bk : Es → Prop := fun _ => False
  ct : Es → Prop := fun _ => False
def RtOk (K : PySem.W.Frag) (G H : Hp) (v : V) : Rt → Prop
  | .val d => Dp K H v d
  | .fresh ds => ∃ p xs, v = .ref p ∧ G p = none ∧ H p = some (.lst xs) ∧ DpAll K (hide p H) xs ds
structure Dk (K : PySem.W.Frag) (G : Hp) (P : Post) (D : Ends) : Prop where
  nx : ∀ G' H' σ' es', P.nx es' → Ex G G' → SE K G' H' σ' es' → D.nx σ' H'
  bk : ∀ G' H' σ' es', P.bk es' → Ex G G' → SE K G' H' σ' es' → D.bk σ' H'
  ct : ∀ G' H' σ' es', P.ct es' → Ex G G' → SE K G' H' σ' es' → D.ct σ' H'
  rt : ∀ v H' r, P.rt r → Ex G H' → RtOk K G H' v r → D.rt v H'
structure Ws (K : PySem.W.Frag) (t : TS) (es : Es) (P : Post) : Prop where
  run : ∀ {G H : Hp} {σ : L2.St} {D : Ends}, SE K G H σ es → Dk K G P D → t D σ H
section
variable {K : PySem.W.Frag} {es : Es} {ta tb te : TE} {tc : TT} {t u : TS} {d e : PyData} {ds : List PyData} {P : Post}
theorem RtOk.back {G G' H : Hp} {v : V} (e : Ex G G') : ∀ {r : Rt}, RtOk K G' H v r → RtOk K G H v r
  | .val _, h => h
  | .fresh _, ⟨p, xs, a, b, c⟩ => ⟨p, xs, a, fresh_back e b, c⟩
theorem Dk.mono {G G' : Hp} {D : Ends} (k : Dk K G P D) (e : Ex G G') : Dk K G' P D where
  nx := fun G2 H2 σ2 es2 h e2 S => k.nx G2 H2 σ2 es2 h (e.trans e2) S
  bk := fun G2 H2 σ2 es2 h e2 S => k.bk G2 H2 σ2 es2 h (e.trans e2) S
  ct := fun G2 H2 σ2 es2 h e2 S => k.ct G2 H2 σ2 es2 h (e.trans e2) S
  rt := fun v H2 r h e2 o => k.rt v H2 r h (e.trans e2) (o.back e)
theorem w_seq (h : Ws K t es { P with nx := fun e => Ws K u e P }) : Ws K (tSeq t u) es P := .mk fun {G H σ D} S k =>
  h.1 (D := { D with nx := u D }) S ⟨fun G' H' σ' es' hu e S' => hu.1 S' (k.mono e), k.bk, k.ct, k.rt⟩
theorem w_next (h : P.nx es) : Ws K tNext es P := .mk fun {G H σ D} S k => k.nx G H σ es h (Ex.refl _) S
theorem w_break (h : P.bk es) : Ws K tBreak es P := .mk fun {G H σ D} S k => k.bk G H σ es h (Ex.refl _) S
theorem w_cont (h : P.ct es) : Ws K tCont es P := .mk fun {G H σ D} S k => k.ct G H σ es h (Ex.refl _) S
theorem w_asg {i : Nat} (h : EvE K te es d) (hn : P.nx (es.set i (.dat d))) : Ws K (tAsg te (gName i)) es P := .mk fun {G H σ D} S k =>
  h.1 S (Ex.refl _) fun v H2 e2 hd => k.nx _ _ _ _ hn (ex_grow S.ex e2) ((S.grow e2).putDat i hd)
theorem w_asgF {i : Nat} (h : EvF K te es ds) (hn : P.nx (es.set i (.own ds))) : Ws K (tAsg te (gName i)) es P := .mk fun {G H σ D} S k =>
  h.1 S (Ex.refl _) fun p xs H2 n e2 hp hd => k.nx _ _ _ _ hn (ex_hide (ex_grow S.ex e2) (fresh_back S.ex n)) (S.putOwn i e2 n hp hd)
theorem w_asgR {i : Nat} {ta : TA} {lo hi : Int} (h : EvA K ta es [.int lo, .int hi]) (hn : P.nx (es.set i (.rng lo hi))) :
    Ws K (tAsg (tCB (fun vs H Q => ∃ i j, vs = [V.int i, V.int j] ∧ ∀ p, H p = none → Q (.ref p) (upd H p (.rng i j))) ta) (gName i)) es P := .mk fun {G H σ D} S k =>
  h.1 S (Ex.refl _) fun vs H2 e2 hd => by
    obtain ⟨v, w, rfl, h1, h2⟩ := dpa_two hd
    refine ⟨lo, hi, by rw [dp_int h1, dp_int h2], fun p hp => ?_⟩
    have e3 : Ex H (upd H2 p (.rng lo hi)) := e2.trans (Ex.new hp)
    refine k.nx _ _ _ _ hn (ex_grow S.ex e3) ((S.grow e3).putRng i ?_)
    rw [grow_new (fresh_back e2 hp)]
    exact upd_same
theorem w_drop (h : EvX K te es d) (hn : P.nx es) : Ws K (tDrop te) es P := .mk fun {G H σ D} S k =>
  h.1 S (Ex.refl _) fun v H2 e2 hd => k.nx _ _ _ _ hn (ex_grow S.ex e2) (S.grow e2)
theorem w_ret (h : EvX K te es d) (hr : P.rt (.val d)) : Ws K (tRet te) es P := .mk fun {G H σ D} S k =>
  h.1 S (Ex.refl _) fun v H2 e2 hd => k.rt v H2 _ hr (S.ex.trans e2) hd
theorem w_retF (h : EvF K te es ds) (hr : P.rt (.fresh ds)) : Ws K (tRet te) es P := .mk fun {G H σ D} S k =>
  h.1 S (Ex.refl _) fun p xs H2 n e2 hp hd => k.rt _ H2 _ hr (S.ex.trans e2) ⟨p, xs, rfl, fresh_back S.ex n, hp, hd.up (hide_mono grow_ex)⟩
theorem w_retO {i : Nat} (h : es[i]? = some (Ent.own ds)) (hr : P.rt (.fresh ds)) : Ws K (tRet (tVar i)) es P := .mk fun {G H σ D} S k => by
  obtain ⟨p, xs, hv, gp, hp, hd⟩ := S.own i ds h
  exact ⟨_, hv, k.rt _ H _ hr S.ex ⟨p, xs, rfl, gp, hp, hd.up (ex_hide S.ex gp)⟩⟩
theorem w_retN (hr : P.rt (.val .none)) : Ws K tRetN es P := .mk fun {G H σ D} S k => k.rt _ H _ hr S.ex .non
theorem w_if {b : Bool} (h : EvB K tc es b) (h1 : b = true → Ws K t es P) (h2 : b = false → Ws K u es P) : Ws K (tIfS tc t u) es P := .mk fun {G H σ D} S k =>
  h.1 S (Ex.refl _) fun H2 e2 => by
    cases b with
    | true => exact iteT ((h1 rfl).1 (S.grow e2) (k.mono (ex_grow S.ex e2)))
    | false => exact iteF ((h2 rfl).1 (S.grow e2) (k.mono (ex_grow S.ex e2)))
/-- a list of one's own is shared from here on -/
theorem w_share {i : Nat} (hi : es[i]? = some (Ent.own ds)) (h : Ws K t (es.set i (.dat (.list ds))) P) : Ws K t es P := .mk fun {G H σ D} S k => by
  obtain ⟨G', e, S'⟩ := S.share hi
  exact h.1 S' (k.mono e)
theorem w_aug {i : Nat} {f : Int → Int → Int} {a b : Int} (hi : es[i]? = some (Ent.dat (.int a))) (h : EvX K te es (.int b)) (hn : P.nx (es.set i (.dat (.int (f a b))))) : Ws K (tAug i te (ipI f)) es P := .mk fun {G H σ D} S k => by
  obtain ⟨v, hv, hd⟩ := S.dat i _ hi
  refine ⟨v, hv, h.1 S (Ex.refl _) fun w H2 e2 hw => ⟨a, b, dp_int hd, dp_int hw, ?_⟩⟩
  exact k.nx _ _ _ _ hn (ex_grow S.ex e2) ((S.grow e2).putDat i (.int _))
/-- .append -/
theorem w_append {i : Nat} (hi : es[i]? = some (Ent.own ds)) (h : EvE K te es d) (hz : ds.length < 100000) (hn : P.nx (es.set i (.own (ds ++ [d])))) : Ws K (tDrop (tBM K "list" rAppend (tVar i) (tCons te tNil))) es P := .mk fun {G H σ D} S k => by
  obtain ⟨p, xs, hv, gp, hp, hd⟩ := S.own i ds hi
  refine ⟨_, hv, .inl ⟨rfl, xs, .inl (.inl hp)⟩, h.1 S (Ex.refl _) fun v H2 e2 hw => ?_⟩
  refine ⟨p, xs, v, rfl, rfl, e2 _ _ hp, sz_lt (by rw [dpa_len hd]; exact hz), ?_⟩
  exact k.nx _ _ _ _ hn (ex_grow S.ex e2) ((S.grow e2).write hi hv (dpa_snoc (hd.up (ex_grow S.ex e2)) hw))
/-- x = xs.pop() -/
theorem w_pop {i j : Nat} (hij : i ≠ j) (hi : es[i]? = some (Ent.own (ds ++ [d]))) (hn : P.nx ((es.set i (.own ds)).set j (.dat d))) : Ws K (tAsg (tBM0 K "list" rPop (tVar i)) (gName j)) es P := .mk fun {G H σ D} S k => by
  obtain ⟨p, xs, hv, gp, hp, hd⟩ := S.own i _ hi
  have hl := dpa_len hd
  rw [List.length_append] at hl
  have hl : xs.length = ds.length + 1 := hl
  obtain ⟨v, hx, hdv⟩ := dpa_at (i := ds.length) (d := d) hd (by rw [List.getElem?_append_right (Nat.le_refl _), Nat.sub_self]; rfl)
  refine ⟨_, hv, .inl ⟨rfl, xs, .inl (.inl hp)⟩, p, xs, v, rfl, rfl, hp, by rw [hl]; exact hx, ?_⟩
  have hd2 : DpAll K G xs.dropLast ds := by
    have q := dpa_dropLast hd
    rw [List.dropLast_concat] at q
    exact q
  exact k.nx _ _ _ _ hn (Ex.refl _) ((S.write hi hv hd2).putDat j hdv)
/-- xs.extend(ys) -/
theorem w_extend {i : Nat} {es' : List PyData} (hi : es[i]? = some (Ent.own ds)) (h : EvF K te es es') (hz : ds.length + es'.length ≤ 100000) (hn : P.nx (es.set i (.own (ds ++ es')))) : Ws K (tDrop (tBM K "list" rExtend (tVar i) (tCons te tNil))) es P := .mk fun {G H σ D} S k => by
  obtain ⟨p, xs, hv, gp, hp, hd⟩ := S.own i ds hi
  refine ⟨_, hv, .inl ⟨rfl, xs, .inl (.inl hp)⟩, h.1 S (Ex.refl _) fun b ys H2 n e2 hb hw => ?_⟩
  refine ⟨p, b, xs, ys, rfl, rfl, e2 _ _ hp, hb, sz_of (by rw [dpa_len hd, dpa_len hw]; exact hz), ?_⟩
  exact k.nx _ _ _ _ hn (ex_grow S.ex e2) ((S.grow e2).write hi hv (dpa_app (hd.up (ex_grow S.ex e2)) (hw.up hide_ex)))
/-- xs[k] = e -/
theorem w_setL {i n : Nat} {z : Int} (h : EvE K te es d) (hi : es[i]? = some (Ent.own ds)) (hb : EvX K tb es (.int z)) (hz : ixN ds.length z = some n) (hn : P.nx (es.set i (.own (ds.set n d)))) : Ws K (tAsg te (gSub (tVar i) tb rSetL)) es P := .mk fun {G H σ D} S k => by
  refine h.1 S (Ex.refl _) fun v H2 e2 hw => ?_
  obtain ⟨p, xs, hv, gp, hp, hd⟩ := S.own i ds hi
  refine ⟨_, hv, hb.1 S e2 fun y H3 e3 hy => ?_⟩
  refine ⟨p, xs, z, n, rfl, dp_int hy, e3 _ _ (e2 _ _ hp), by rw [dpa_len hd]; exact hz, ?_⟩
  have e23 := e2.trans e3
  exact k.nx _ _ _ _ hn (ex_grow S.ex e23) ((S.grow e23).write hi hv (dpa_set n (hd.up (ex_grow S.ex e23)) (hw.up (grow_mono e3))))
end
end Pu

namespace Pu
open PySem PySem.Spec L2 Evl
open PyProof.Rows (envOfC)

/-! ### ranges that are kept, of any size -/
theorem turn_long {P : Program} {w : World} {K : PySem.W.Frag} {tg : Expr} (it : Addr) (lo : Int) (n : Nat) : Turn P w K tg (Itr lo n) [it] it (fun i h => IsLongIter h it (lo + (i : Nat) * 1) ((n : Int) - (i : Nat)) 1) where
  mem := by simp
  obj := fun i h st b hb => by
    have e : b = it := by simpa using hb
    subst e
    exact ⟨_, st, fun v z => by
      have z' : Data.fields _ = Data.cell v := z
      cases z'⟩
  keep := fun i h h' st k => k it (by simp) _ st
  item := by
    intro X hP hw hK hc i pins s σ H E I hf st hg
    subst hP hw hK
    obtain ⟨f0, f1, f2, f3, f4, f5⟩ := hf it (by simp)
    have W := Walks.longrange (prog := X.prog) (w := X.w) (I.ok.hd hc) it lo 1 n
    refine W.item i s _ _ hg st fun v h' tk hv st' kk => ?_
    obtain ⟨t, rfl⟩ := hv
    have I1 : Inv X pins σ H { s with heap := h', toks := tk } := I.turned (fun b o hb e => kk b o (by simpa using hb) e) f0 f1 f3 f4 f5
    refine ⟨_, rfl, go_of (s := { s with heap := h', toks := tk }) (n := "longrange_iterator") st' rfl rfl (by decide) ⟨.int (lo + i), H, I1, ⟨t, ?_⟩, ⟨rfl, rfl⟩, st', fun b hb => (hf b hb).1⟩⟩
    rw [Int.mul_one]
  done := by
    intro X hP hw hK hc i pins s σ H E I hf st hg
    subst hP hw hK
    obtain ⟨f0, f1, f2, f3, f4, f5⟩ := hf it (by simp)
    exact wpAny_pyNext_long_end (I.ok.hd hc) st (by have : n ≤ i := hg; omega) fun h' eb => ⟨rfl, I.turned (t' := s.toks) (fun b o hb e => eb b o hb e) f0 f1 f3 f4 f5⟩
  self := fun _ _ _ _ _ st h => wpAny_pyIter_longiter st h
def iRngO (tl : TE) : TI := fun σ H R => tl σ H fun x H1 => ∃ a lo hi, x = .ref a ∧ H1 a = some (.rng lo hi) ∧ R (Itr lo (hi - lo).toNat) H1
theorem pi_rngO {X : Cx} {tg l : Expr} {tl : TE} (hl : PE X l tl) : PI X tg l (iRngO tl) := by
  refine ⟨fun pins s σ H R I h => ?_⟩
  refine thn (hl.run pins s σ H _ I h) fun v s1 ⟨x, H1, I1, r1, q1⟩ => ?_
  obtain ⟨a, lo, hi, e, hq, q⟩ := q1
  subst e
  cases r1
  obtain ⟨t, u, v, ho⟩ := I1.hok a _ hq
  have e2 : (((hi - lo).toNat : Nat) : Int) - ((0 : Nat) : Int) = Builtin.Range.rangeSize lo hi 1 := by rw [rangeSize_one]; split <;> omega
  have e1 : lo + ((0 : Nat) : Int) * 1 = lo := by simp
  by_cases hs : Builtin.Range.small lo hi 1 = true
  · refine wpAny_pyIter_range ho hs ?_
    refine ⟨s1.heap.objs.size, [s1.heap.objs.size], _, _, H1, rfl, I1.kept (t' := s1.toks) fun b o e => Heap.get?_push_of_some _ e, turn_range _ lo (hi - lo).toNat, ?_, fun b hb => ?_, q⟩
    · show IsRangeIter _ _ (lo + ((0 : Nat) : Int) * 1) ((((hi - lo).toNat : Nat) : Int) - ((0 : Nat) : Int)) 1
      rw [e1, e2]
      exact Heap.get?_push_size _ rfl
    · have e : b = s1.heap.objs.size := by simpa using hb
      subst e
      exact I1.fpOk (Nat.le_refl _) (I1.hok.fresh (Nat.le_refl _))
  · refine wpAny_pyIter_longrange ho (by simpa using hs) ?_
    refine ⟨s1.heap.objs.size, [s1.heap.objs.size], _, _, H1, rfl, I1.kept (t' := s1.toks) fun b o e => Heap.get?_push_of_some _ e, turn_long _ lo (hi - lo).toNat, ?_, fun b hb => ?_, q⟩
    · show IsLongIter _ _ (lo + ((0 : Nat) : Int) * 1) ((((hi - lo).toNat : Nat) : Int) - ((0 : Nat) : Int)) 1
      rw [e1, e2]
      exact Heap.get?_push_size _ rfl
    · have e : b = s1.heap.objs.size := by simpa using hb
      subst e
      exact I1.fpOk (Nat.le_refl _) (I1.hok.fresh (Nat.le_refl _))

/-! ### what is walked -/
structure ItOk (K : PySem.W.Frag) (G : Hp) (J : It) (ds : List PyData) : Prop where
  go : ∀ i H', Ex G H' → i < ds.length → J.go i H'
  yld : ∀ i x H' H'', Ex G H' → i < ds.length → J.yld i H' x H'' → H'' = H' ∧ ∃ d, ds[i]? = some d ∧ Dp K G x d
  stop : ∀ H', Ex G H' → J.stop ds.length H'
structure EvI (K : PySem.W.Frag) (wi : TI) (es : Es) (ds : List PyData) : Prop where
  run : ∀ {G H : Hp} {σ : L2.St}, SE K G H σ es → ∀ {H1 : Hp}, Ex H H1 → ∀ {R : It → Hp → Prop}, (∀ J H2, Ex H1 H2 → ItOk K (grow G H H2) J ds → R J H2) → wi σ H1 R
section
variable {K : PySem.W.Frag} {es : Es} {ta tb te tl : TE} {tc tt : TT} {t u : TS} {d e : PyData} {ds : List PyData} {P : Post}
theorem it_list {G : Hp} {a : Addr} {xs : List V} (hs : SqL K G a xs) (hd : DpAll K G xs ds) : ItOk K G (Itl K a) ds where
  go := fun i H' e hi => by
    obtain ⟨v, hv, _⟩ := dpa_at hd (List.getElem?_eq_getElem hi)
    exact ⟨xs, v, ex_l e hs, hv⟩
  yld := fun i x H' H'' e hi y => by
    obtain ⟨e1, y⟩ := y
    obtain ⟨v, hv, hdv⟩ := dpa_at hd (List.getElem?_eq_getElem hi)
    have := y xs (ex_l e hs)
    rw [hv] at this
    cases this
    exact ⟨e1, _, List.getElem?_eq_getElem hi, hdv⟩
  stop := fun H' e => ⟨xs, ex_l e hs, by rw [dpa_len hd]; exact Nat.le_refl _⟩
theorem it_tup {G : Hp} {a : Addr} {xs : List V} (hs : SqT K G a xs) (hd : DpAll K G xs ds) : ItOk K G (Itt K a) ds where
  go := fun i H' e hi => by
    obtain ⟨v, hv, _⟩ := dpa_at hd (List.getElem?_eq_getElem hi)
    exact ⟨xs, v, ex_t e hs, hv⟩
  yld := fun i x H' H'' e hi y => by
    obtain ⟨e1, y⟩ := y
    obtain ⟨v, hv, hdv⟩ := dpa_at hd (List.getElem?_eq_getElem hi)
    have := y xs (ex_t e hs)
    rw [hv] at this
    cases this
    exact ⟨e1, _, List.getElem?_eq_getElem hi, hdv⟩
  stop := fun H' e => ⟨xs, ex_t e hs, by rw [dpa_len hd]; exact Nat.le_refl _⟩
/-- lo, lo + 1, .. -/
def rngD (lo : Int) (n : Nat) : List PyData := (List.range n).map fun i => PyData.int (lo + (i : Nat))
theorem rngD_len {lo : Int} {n : Nat} : (rngD lo n).length = n := by unfold rngD; rw [List.length_map, List.length_range]
theorem rngD_get {lo : Int} {n i : Nat} (h : i < n) : (rngD lo n)[i]? = some (.int (lo + (i : Nat))) := by
  unfold rngD
  rw [List.getElem?_map, List.getElem?_range h]
  rfl
theorem it_rng {G : Hp} {lo : Int} {n : Nat} : ItOk K G (Itr lo n) (rngD lo n) where
  go := fun i H' e hi => by rw [rngD_len] at hi; exact hi
  yld := fun i x H' H'' e hi y => by
    rw [rngD_len] at hi
    obtain ⟨e1, rfl⟩ := y
    exact ⟨e1, _, rngD_get hi, .int _⟩
  stop := fun H' e => by rw [rngD_len]; exact Nat.le_refl _
theorem ei_list (h : EvE K tl es (.list ds)) : EvI K (iList K tl) es ds := .mk fun {G H σ} S {H1} e1 {R} q => h.1 S e1 fun x H2 e2 hx => by
  obtain ⟨p, xs, rfl, hs, hd⟩ := dp_lst hx
  exact ⟨p, rfl, ⟨xs, ex_l grow_ex hs⟩, q _ H2 e2 (it_list hs hd)⟩
theorem ei_tup (h : EvE K tl es (.tuple ds)) : EvI K (iTup K tl) es ds := .mk fun {G H σ} S {H1} e1 {R} q => h.1 S e1 fun x H2 e2 hx => by
  obtain ⟨p, xs, rfl, hs, hd⟩ := dp_tup hx
  exact ⟨p, rfl, ⟨xs, ex_t grow_ex hs⟩, q _ H2 e2 (it_tup hs hd)⟩
theorem ei_rng1 {ta : TA} {n : Int} (h : EvA K ta es [.int n]) (hn : -(2 ^ 62) ≤ n ∧ n < 2 ^ 62) : EvI K (iRng1 ta) es (rngD 0 n.toNat) := .mk fun {G H σ} S {H1} e1 {R} q => h.1 S e1 fun vs H2 e2 hx => by
  obtain ⟨v, rfl, hv⟩ := dpa_one hx
  exact ⟨n, by rw [dp_int hv], hn.1, hn.2, q _ H2 e2 it_rng⟩
theorem ei_rng2 {ta : TA} {m n : Int} (h : EvA K ta es [.int m, .int n]) (hm : -(2 ^ 62) ≤ m ∧ m < 2 ^ 62) (hn : -(2 ^ 62) ≤ n ∧ n < 2 ^ 62) : EvI K (iRng2 ta) es (rngD m (n - m).toNat) := .mk fun {G H σ} S {H1} e1 {R} q => h.1 S e1 fun vs H2 e2 hx => by
  obtain ⟨v, w, rfl, hv, hw⟩ := dpa_two hx
  exact ⟨m, n, by rw [dp_int hv, dp_int hw], ⟨hm.1, hm.2, hn.1, hn.2⟩, q _ H2 e2 it_rng⟩
theorem ei_rngO {i : Nat} {lo hi : Int} (h : es[i]? = some (Ent.rng lo hi)) : EvI K (iRngO (tVar i)) es (rngD lo (hi - lo).toNat) := .mk fun {G H σ} S {H1} e1 {R} q => by
  obtain ⟨p, hv, hp⟩ := S.rng i lo hi h
  exact ⟨_, hv, p, lo, hi, rfl, e1 _ _ (S.ex _ _ hp), q _ H1 (Ex.refl _) it_rng⟩

/-! ### targets -/
structure Tg (K : PySem.W.Frag) (g : TG) (d : PyData) (es es' : Es) : Prop where
  run : ∀ {G H : Hp} {σ : L2.St} {v : V}, SE K G H σ es → Dp K G v d → ∀ {Q : L2.St → Hp → Prop}, (∀ σ', SE K G H σ' es' → Q σ' H) → g v σ H Q
theorem tg_name {j : Nat} : Tg K (gName j) d es (es.set j (.dat d)) := .mk fun {G H σ v} S hv {Q} q => q _ (S.putDat j hv)
structure TgA (K : PySem.W.Frag) (g : TGs) (ds : List PyData) (es es' : Es) : Prop where
  run : ∀ {G H : Hp} {σ : L2.St} {vs : List V}, SE K G H σ es → DpAll K G vs ds → ∀ {Q : L2.St → Hp → Prop}, (∀ σ', SE K G H σ' es' → Q σ' H) → g vs σ H Q
theorem tga_nil : TgA K gNil [] es es := .mk fun {G H σ vs} S hv {Q} q => ⟨dpa_nil hv, q _ S⟩
theorem tga_cons {g : TG} {gs : TGs} {e1 e2 : Es} (h : Tg K g d es e1) (h2 : TgA K gs ds e1 e2) : TgA K (gCons g gs) (d :: ds) es e2 := .mk fun {G H σ vs} S hv {Q} q => by
  obtain ⟨v, r, rfl, a, b⟩ := dpa_cons hv
  exact ⟨v, r, rfl, h.1 S a fun σ' S' => h2.1 S' b q⟩
theorem tg_tup {gs : TGs} {n : Nat} {e1 : Es} (h : TgA K gs ds es e1) (hn : ds.length = n) : Tg K (gTup K n gs) (.tuple ds) es e1 := .mk fun {G H σ v} S hv {Q} q => by
  obtain ⟨p, xs, rfl, hs, hd⟩ := dp_tup hv
  exact ⟨p, xs, rfl, ex_t S.ex hs, by rw [dpa_len hd]; exact hn, h.1 S hd q⟩
theorem w_asgT {g : TG} {e1 : Es} (h : EvE K te es d) (ht : Tg K g d es e1) (hn : P.nx e1) : Ws K (tAsg te g) es P := .mk fun {G H σ D} S k =>
  h.1 S (Ex.refl _) fun v H2 e2 hd => ht.1 (S.grow e2) hd fun σ' S' => k.nx _ _ _ _ hn (ex_grow S.ex e2) S'

/-! ### loops -/
theorem w_for {wi : TI} {g : TG} {tb : TS} (h : EvI K wi es ds) (Iv : Nat → Es → Prop) (h0 : Iv 0 es)
    (hs : ∀ i d e, ds[i]? = some d → Iv i e → ∃ e', Tg K g d e e' ∧ Ws K tb e' ⟨Iv (i + 1), P.rt, P.nx, Iv (i + 1)⟩) (hd : ∀ e, Iv ds.length e → P.nx e) : Ws K (tFor wi g tb) es P := .mk fun {G H σ D} S k =>
  h.1 S (Ex.refl _) fun J H2 e2 hJ => by
    refine ⟨fun i m σ' H' => m = ds.length - i ∧ i ≤ ds.length ∧ ∃ G' es', Iv i es' ∧ Ex (grow G H H2) G' ∧ SE K G' H' σ' es', ⟨ds.length, by simp, Nat.zero_le _, _, es, h0, Ex.refl _, S.grow e2⟩, ?_⟩
    rintro i m σ' H' ⟨rfl, hi, G', es', hv, eG, S'⟩
    have e0 : Ex G G' := (ex_grow S.ex e2).trans eG
    by_cases hlt : i < ds.length
    · refine .inr ⟨hJ.go i H' (eG.trans S'.ex) hlt, fun σ2 H3 => ∃ G2 es2, Iv (i + 1) es2 ∧ Ex (grow G H H2) G2 ∧ SE K G2 H3 σ2 es2, fun σ2 H3 q => ⟨ds.length - (i + 1), by omega, rfl, hlt, q⟩, fun x H3 y => ?_⟩
      obtain ⟨rfl, d, hdi, hx⟩ := hJ.yld i x H' H3 (eG.trans S'.ex) hlt y
      obtain ⟨e', tg, ws⟩ := hs i d es' hdi hv
      refine tg.1 S' (hx.up eG) fun σ2 S2 => ws.1 S2 ⟨fun G3 H3 σ3 es3 q e3 S3 => ⟨G3, es3, q, eG.trans e3, S3⟩, fun G3 H3 σ3 es3 q e3 S3 => k.nx G3 H3 σ3 es3 q (e0.trans e3) S3, fun G3 H3 σ3 es3 q e3 S3 => ⟨G3, es3, q, eG.trans e3, S3⟩, fun v H3 r q e3 o => k.rt v H3 r q (e0.trans e3) (o.back e0)⟩
    · have e : i = ds.length := by omega
      subst e
      exact .inl ⟨hJ.stop H' (eG.trans S'.ex), k.nx _ _ _ _ (hd es' hv) e0 S'⟩
theorem w_forN {wi : TI} {j : Nat} {tb : TS} (h : EvI K wi es ds) (Iv : Nat → Es → Prop) (h0 : Iv 0 es)
    (hs : ∀ i d e, ds[i]? = some d → Iv i e → Ws K tb (e.set j (.dat d)) ⟨Iv (i + 1), P.rt, P.nx, Iv (i + 1)⟩) (hd : ∀ e, Iv ds.length e → P.nx e) : Ws K (tFor wi (gName j) tb) es P :=
  w_for h Iv h0 (fun i d e a b => ⟨_, tg_name, hs i d e a b⟩) hd
theorem w_while {tb : TS} (Iv : Nat → Es → Prop) (m0 : Nat) (h0 : Iv m0 es)
    (hs : ∀ m e, Iv m e → ∃ b, EvB K tc e b ∧ (b = true → Ws K tb e ⟨fun e' => ∃ m', m' < m ∧ Iv m' e', P.rt, P.nx, fun e' => ∃ m', m' < m ∧ Iv m' e'⟩) ∧ (b = false → P.nx e)) : Ws K (tWhile tc tb) es P := .mk fun {G H σ D} S k => by
  refine ⟨fun m σ' H' => ∃ G' es', Iv m es' ∧ Ex G G' ∧ SE K G' H' σ' es', ⟨m0, G, es, h0, Ex.refl _, S⟩, ?_⟩
  rintro m σ' H' ⟨G', es', hv, eG, S'⟩
  obtain ⟨b, hb, h1, h2⟩ := hs m es' hv
  refine hb.1 S' (Ex.refl _) fun H2 e2 => ?_
  have e0 : Ex G (grow G' H' H2) := eG.trans (ex_grow S'.ex e2)
  cases b with
  | true =>
    refine iteT ⟨fun σ2 H3 => ∃ m', m' < m ∧ ∃ G2 es2, Iv m' es2 ∧ Ex G G2 ∧ SE K G2 H3 σ2 es2, fun σ2 H3 ⟨m', hm, q⟩ => ⟨m', hm, q⟩, (h1 rfl).1 (S'.grow e2) ⟨?_, ?_, ?_, ?_⟩⟩
    · rintro G3 H3 σ3 es3 ⟨m', hm, q⟩ e3 S3
      exact ⟨m', hm, G3, es3, q, e0.trans e3, S3⟩
    · exact fun G3 H3 σ3 es3 q e3 S3 => k.nx G3 H3 σ3 es3 q (e0.trans e3) S3
    · rintro G3 H3 σ3 es3 ⟨m', hm, q⟩ e3 S3
      exact ⟨m', hm, G3, es3, q, e0.trans e3, S3⟩
    · exact fun v H3 r q e3 o => k.rt v H3 r q (e0.trans e3) (o.back e0)
  | false => exact iteF (k.nx _ _ _ _ (h2 rfl) e0 (S'.grow e2))

/-! ### comprehensions -/
theorem eb_yes : EvB K tYes es true := .mk fun {_ _ _} S {_} e1 {_} q => q _ (Ex.refl _)
theorem hide_upd {G H H2 : Hp} {p : Addr} {o : HO} : hide p (grow G H (upd H2 p o)) = hide p (grow G H H2) := by
  funext a
  by_cases z : a = p
  · rw [z, hide_self, hide_self]
  · rw [hide_ne z, hide_ne z]
    unfold grow
    rw [upd_ne z]
/-- the split within a comprehension: its list is private -/
theorem SE.within {G H H' : Hp} {σ : L2.St} {p : Addr} {xs : List V} (S : SE K G H σ es) (hn : H p = none) (e : Ex H H') (hp : H' p = some (.lst xs)) : SE K (hide p (Pu.grow G H H')) H' σ es := by
  have gp : G p = none := fresh_back S.ex hn
  refine S.re (ex_hide (ex_grow S.ex e) gp) (hide_ex.trans grow_ex) e (fun q ys h1 h2 => ?_) (fun a o h1 h2 => ?_)
  · by_cases z : q = p
    · rw [z, hide_self]
    · rw [hide_ne z, grow_priv h1 h2]
  · by_cases z : a = p
    · rw [z, hp] at h2
      cases h2
      trivial
    · rw [hide_ne z] at h1
      exact prv_grow S.prv e a o h1 h2
theorem within_ex {G H H' H4 : Hp} {p : Addr} {xs : List V} (e : Ex H H') (hp : H' p = some (.lst xs)) : Ex (grow (hide p (grow G H H')) H' H4) (hide p (grow G H H4)) := fun a o h => by
  by_cases z : a = p
  · rw [z, grow_priv hide_self hp] at h
    cases h
  · rw [hide_ne z]
    have h4 := grow_ex _ _ h
    cases hg : G a with
    | some u => rw [grow_pub hg]; exact h4
    | none =>
      cases hh : H a with
      | none => rw [grow_new hh]; exact h4
      | some u =>
        have q : hide p (grow G H H') a = none := by rw [hide_ne z, grow_priv hg hh]
        rw [grow_priv q (e _ _ hh)] at h
        cases h
theorem filt_snoc_yes {f : PyData → Bool} {g : PyData → PyData} {i : Nat} (h : ds[i]? = some d) (hf : f d = true) : ((ds.take (i + 1)).filter f).map g = ((ds.take i).filter f).map g ++ [g d] := by
  rw [List.take_add_one, h, List.filter_append, List.map_append]
  show _ ++ ([d].filter f).map g = _
  rw [List.filter_cons, if_pos hf]
  rfl
theorem filt_snoc_no {f : PyData → Bool} {g : PyData → PyData} {i : Nat} (h : ds[i]? = some d) (hf : f d = false) : ((ds.take (i + 1)).filter f).map g = ((ds.take i).filter f).map g := by
  rw [List.take_add_one, h, List.filter_append, List.map_append]
  show _ ++ ([d].filter f).map g = _
  rw [List.filter_cons, if_neg (by rw [hf]; decide)]
  exact List.append_nil _
theorem ef_lc {wi : TI} {j : Nat} {vs : List Nat} (f : PyData → Bool) (g : PyData → PyData) (h : EvI K wi es ds) (hz : ds.length ≤ 50000) (hj : ∀ σ x, wipe ((wipe σ vs).set j x) vs = wipe σ vs)
    (ht : ∀ d ∈ ds, EvB K tt ((wipeE es vs).set j (.dat d)) (f d)) (he : ∀ d ∈ ds, f d = true → EvE K te ((wipeE es vs).set j (.dat d)) (g d)) : EvF K (tLc wi (gName j) tt te vs) es ((ds.filter f).map g) := .mk fun {G H σ} S {H1} e1 {Q} q =>
  h.1 S e1 fun J H2 e2 hJ Dl hD => by
    have e12 := e1.trans e2
    have hn : H Dl = none := fresh_back e12 hD
    refine ⟨fun i m H' => m = ds.length - i ∧ i ≤ ds.length ∧ Ex H2 H' ∧ ∃ acc, H' Dl = some (.lst acc) ∧ DpAll K (hide Dl (grow G H H')) acc (((ds.take i).filter f).map g), ⟨ds.length, by simp, Nat.zero_le _, Ex.new hD, [], upd_same, .nil⟩, ?_⟩
    rintro i m H' ⟨rfl, hi, eH, acc, ha, hda⟩
    have e' : Ex H H' := e12.trans eH
    by_cases hlt : i < ds.length
    · refine .inr ⟨hJ.go i H' (grow_ex.trans eH) hlt, _, fun H3 w => ⟨ds.length - (i + 1), by omega, w⟩, fun x H3 y => ?_⟩
      obtain ⟨rfl, d, hdi, hx⟩ := hJ.yld i x H' H3 (grow_ex.trans eH) hlt y
      have hm : d ∈ ds := List.mem_of_getElem? hdi
      have S2 := ((S.within hn e' ha).wipe vs).putDat j (hx.up (ex_hide (grow_mono eH) (grow_none hD)))
      refine ⟨hj σ (some x), (ht d hm).1 S2 (Ex.refl _) fun H4 e4 => ?_⟩
      have lacc : acc.length ≤ i := by
        rw [dpa_len hda, List.length_map]
        exact Nat.le_trans (List.length_filter_le _ _) (by rw [List.length_take]; exact Nat.min_le_left _ _)
      cases hf : f d with
      | true =>
        refine iteT ((he d hm hf).1 S2 e4 fun z H5 e5 hz' => ?_)
        have a5 : H5 Dl = some (.lst acc) := e5 _ _ (e4 _ _ ha)
        refine ⟨acc, a5, sz_lt (by omega), rfl, hlt, Ex.mut ((eH.trans e4).trans e5) hD, acc ++ [z], upd_same, ?_⟩
        rw [filt_snoc_yes hdi hf, hide_upd]
        exact dpa_snoc (hda.up (hide_mono (grow_mono (e4.trans e5)))) (hz'.up (within_ex e' ha))
      | false =>
        refine iteF ⟨rfl, hlt, eH.trans e4, acc, e4 _ _ ha, ?_⟩
        rw [filt_snoc_no hdi hf]
        exact hda.up (hide_mono (grow_mono e4))
    · have e : i = ds.length := by omega
      subst e
      refine .inl ⟨hJ.stop H' (grow_ex.trans eH), q Dl acc H' (fresh_back e2 hD) (e2.trans eH) ha ?_⟩
      rw [List.take_length] at hda
      exact hda
theorem ef_lcA {wi : TI} {j : Nat} {vs : List Nat} (g : PyData → PyData) (h : EvI K wi es ds) (hz : ds.length ≤ 50000) (hj : ∀ σ x, wipe ((wipe σ vs).set j x) vs = wipe σ vs)
    (he : ∀ d ∈ ds, EvE K te ((wipeE es vs).set j (.dat d)) (g d)) : EvF K (tLc wi (gName j) tYes te vs) es (ds.map g) :=
  ev_isF (ef_lc (fun _ => true) g h hz hj (fun d _ => eb_yes) fun d hd _ => he d hd) (by rw [List.filter_eq_self.mpr fun _ _ => rfl])
theorem tYes_at {σ : L2.St} {H : Hp} {Q : Bool → Hp → Prop} : tYes σ H Q = Q true H := rfl
/-- two for, no test -/
theorem ef_lc2 {wi wi1 : TI} {j j1 : Nat} {vs vs1 : List Nat} (ds1 : PyData → List PyData) (g : PyData → PyData → PyData) (h : EvI K wi es ds) (hz : (ds.flatMap fun d => (ds1 d).map (g d)).length ≤ 50000)
    (hj : ∀ σ x, wipe ((wipe σ vs).set j x) vs = wipe σ vs) (hj1 : ∀ σ x, wipe ((wipe σ vs1).set j1 x) vs1 = wipe σ vs1)
    (h1 : ∀ d ∈ ds, EvI K wi1 ((wipeE es vs).set j (.dat d)) (ds1 d))
    (he : ∀ d ∈ ds, ∀ d1 ∈ ds1 d, EvE K te ((wipeE ((wipeE es vs).set j (.dat d)) vs1).set j1 (.dat d1)) (g d d1)) : EvF K (tLc2 wi (gName j) tYes wi1 (gName j1) tYes te vs vs1) es (ds.flatMap fun d => (ds1 d).map (g d)) := .mk fun {G H σ} S {H1} e1 {Q} q =>
  h.1 S e1 fun J H2 e2 hJ Dl hD => by
    have e12 := e1.trans e2
    have hn : H Dl = none := fresh_back e12 hD
    refine ⟨fun i m H' => m = ds.length - i ∧ i ≤ ds.length ∧ Ex H2 H' ∧ ∃ acc, H' Dl = some (.lst acc) ∧ DpAll K (hide Dl (grow G H H')) acc ((ds.take i).flatMap fun d => (ds1 d).map (g d)), ⟨ds.length, by simp, Nat.zero_le _, Ex.new hD, [], upd_same, .nil⟩, ?_⟩
    rintro i m H' ⟨rfl, hi, eH, acc, ha, hda⟩
    have e' : Ex H H' := e12.trans eH
    by_cases hlt : i < ds.length
    · refine .inr ⟨hJ.go i H' (grow_ex.trans eH) hlt, fun H' => ds.length - (i + 1) = ds.length - (i + 1) ∧ i + 1 ≤ ds.length ∧ Ex H2 H' ∧ ∃ acc, H' Dl = some (.lst acc) ∧ DpAll K (hide Dl (grow G H H')) acc ((ds.take (i + 1)).flatMap fun d => (ds1 d).map (g d)), fun H3 w => ⟨ds.length - (i + 1), by omega, w⟩, fun x H3 y => ?_⟩
      obtain ⟨rfl, d, hdi, hx⟩ := hJ.yld i x H' H3 (grow_ex.trans eH) hlt y
      have hm : d ∈ ds := List.mem_of_getElem? hdi
      have S2 := ((S.within hn e' ha).wipe vs).putDat j (hx.up (ex_hide (grow_mono eH) (grow_none hD)))
      have tk : (ds.take (i + 1)).flatMap (fun d => (ds1 d).map (g d)) = (ds.take i).flatMap (fun d => (ds1 d).map (g d)) ++ (ds1 d).map (g d) := by
        rw [List.take_add_one, hdi, List.flatMap_append]
        show _ ++ List.flatMap _ [d] = _
        rw [List.flatMap_singleton]
      have tot : ((ds.take (i + 1)).flatMap (fun d => (ds1 d).map (g d))).length ≤ 50000 := by
        refine Nat.le_trans ?_ hz
        conv => rhs; rw [← List.take_append_drop (i + 1) ds, List.flatMap_append, List.length_append]
        exact Nat.le_add_right _ _
      rw [tk, List.length_append, List.length_map] at tot
      refine ⟨hj σ (some x), ?_⟩
      rw [tYes_at]
      rw [if_pos rfl]
      refine (h1 d hm).1 S2 (Ex.refl _) fun J1 H4 e4 hJ1 => ?_
      have e4' : Ex H H4 := e'.trans e4
      have a4 : H4 Dl = some (.lst acc) := e4 _ _ ha
      refine ⟨fun k n H5 => n = (ds1 d).length - k ∧ k ≤ (ds1 d).length ∧ Ex H2 H5 ∧ Ex (grow (hide Dl (grow G H H3)) H3 H4) (hide Dl (grow G H H5)) ∧ ∃ acc2, H5 Dl = some (.lst acc2) ∧ DpAll K (hide Dl (grow G H H5)) acc2 ((ds.take i).flatMap (fun d => (ds1 d).map (g d)) ++ ((ds1 d).take k).map (g d)),
        ⟨(ds1 d).length, by simp, Nat.zero_le _, eH.trans e4, within_ex e' ha, acc, a4, ?_⟩, ?_⟩
      · show DpAll K _ acc (_ ++ [])
        rw [List.append_nil]
        exact hda.up (hide_mono (grow_mono e4))
      rintro k n H5 ⟨rfl, hk, eH5, ew, acc2, a5, hd5⟩
      have e5' : Ex H H5 := e12.trans eH5
      have ewd : Ex (grow (hide Dl (grow G H H3)) H3 H4) H5 := ew.trans (hide_ex.trans grow_ex)
      by_cases hlt1 : k < (ds1 d).length
      · refine .inr ⟨hJ1.go k H5 ewd hlt1, fun H5 => (ds1 d).length - (k + 1) = (ds1 d).length - (k + 1) ∧ k + 1 ≤ (ds1 d).length ∧ Ex H2 H5 ∧ Ex (grow (hide Dl (grow G H H3)) H3 H4) (hide Dl (grow G H H5)) ∧ ∃ acc2, H5 Dl = some (.lst acc2) ∧ DpAll K (hide Dl (grow G H H5)) acc2 ((ds.take i).flatMap (fun d => (ds1 d).map (g d)) ++ ((ds1 d).take (k + 1)).map (g d)), fun H6 w => ⟨(ds1 d).length - (k + 1), by omega, w⟩, fun x1 H6 y1 => ?_⟩
        obtain ⟨rfl, d1, hdk, hx1⟩ := hJ1.yld k x1 H5 H6 ewd hlt1 y1
        have hm1 : d1 ∈ ds1 d := List.mem_of_getElem? hdk
        have hx2 : Dp K (hide Dl (grow G H H6)) x d := hx.up (ex_hide (grow_mono eH5) (grow_none hD))
        have S3 := (((((S.within hn e5' a5).wipe vs).putDat j hx2).wipe vs1).putDat j1 (hx1.up ew))
        refine ⟨hj1 _ (some x1), ?_⟩
        rw [tYes_at]
        rw [if_pos rfl]
        refine (he d hm d1 hm1).1 S3 (Ex.refl _) fun z H7 e7 hz' => ?_
        have a7 : H7 Dl = some (.lst acc2) := e7 _ _ a5
        have lacc : acc2.length < 100000 := by
          rw [dpa_len hd5, List.length_append, List.length_map, List.length_take]
          have : min k (ds1 d).length ≤ (ds1 d).length := Nat.min_le_right _ _
          omega
        refine ⟨acc2, a7, sz_lt lacc, rfl, hlt1, Ex.mut (eH5.trans e7) hD, ?_, acc2 ++ [z], upd_same, ?_⟩
        · rw [hide_upd]
          exact ew.trans (hide_mono (grow_mono e7))
        · rw [hide_upd, List.take_add_one, hdk, List.map_append, ← List.append_assoc]
          exact dpa_snoc (hd5.up (hide_mono (grow_mono e7))) (hz'.up (within_ex e5' a5))
      · have e : k = (ds1 d).length := by omega
        subst e
        refine .inl ⟨hJ1.stop H5 ewd, rfl, hlt, eH5, acc2, a5, ?_⟩
        rw [tk]
        rw [List.take_length] at hd5
        exact hd5
    · have e : i = ds.length := by omega
      subst e
      refine .inl ⟨hJ.stop H' (grow_ex.trans eH), q Dl acc H' (fresh_back e2 hD) (e2.trans eH) ha ?_⟩
      rw [List.take_length] at hda
      exact hda
end

/-! ### a def -/
def startE (N : List Str) (ds : List PyData) : Es := ds.map .dat ++ List.replicate (N.length - ds.length) .no
section
variable {P : Program} {w : World} {K : PySem.W.Frag} {mg : Str → Option Value} {base : Heap}
theorem se_start {N : List Str} {vs : List V} {ds : List PyData} {H : Hp} (h : DpAll K H vs ds) : SE K H H (L2.start N vs) (startE N ds) := by
  have hl := dpa_len h
  have key : ∀ (i : Nat) (en : Ent), (startE N ds)[i]? = some en → (∃ d, en = .dat d ∧ ds[i]? = some d) ∨ en = .no := fun i en hi => by
    unfold startE at hi
    by_cases hlt : i < ds.length
    · rw [List.getElem?_append_left (by rw [List.length_map]; exact hlt), List.getElem?_map, List.getElem?_eq_getElem hlt] at hi
      cases hi
      exact .inl ⟨_, rfl, List.getElem?_eq_getElem hlt⟩
    · rw [List.getElem?_append_right (by rw [List.length_map]; omega)] at hi
      have := List.mem_of_getElem? hi
      exact .inr (List.eq_of_mem_replicate this)
  refine ⟨Ex.refl _, ?_, fun i d hi => ?_, fun i d hi => ?_, fun i j d d' p hi => ?_, fun i lo hi hh => ?_, fun a o h1 h2 => ?_⟩
  · unfold startE L2.start
    rw [List.length_append, List.length_append, List.length_map, List.length_map, List.length_replicate, List.length_replicate, hl]
  · rcases key i _ hi with ⟨d', e, q⟩ | e
    · cases e
      obtain ⟨v, hv, hd⟩ := dpa_at h q
      refine ⟨v, ?_, hd⟩
      have hlt : i < vs.length := (List.getElem?_eq_some_iff.mp hv).1
      unfold L2.start
      rw [List.getElem?_append_left (by rw [List.length_map]; exact hlt), List.getElem?_map, hv]
      rfl
    · cases e
  · rcases key i _ hi with ⟨d', e, q⟩ | e <;> cases e
  · rcases key i _ hi with ⟨d', e, q⟩ | e <;> cases e
  · rcases key i _ hh with ⟨d', e, q⟩ | e <;> cases e
  · rw [h1] at h2
    cases h2
/-- a def that gives data -/
theorem fn_val {α : Type} {x qual : Str} {st : Stmt} {f : Addr} {fd : FuncData} {N ps : List Str} {k : Nat} {args : α → List PyData} {pre : α → Prop} {res : α → PyData} (F : Fun K x qual st f fd) (S : FnScope N ps (defScope st)) (hl : ∀ a, (args a).length = ps.length)
    (h : ∀ (cdv : Value) (A : Around) (outer : List Env) (s : Shared) (H : Hp) (E : XK), Room k (A.deeper (envOfC qual (defScope st) s.heap.objs.size f cdv)) →
      ∃ t, PSs (cxOf CX0 P w K mg base N qual (defScope st) f cdv A outer s H E).nox (defBody st) t ∧ ∀ a, pre a → Ws K t (startE N (args a)) { nx := fun _ => res a = .none, rt := fun r => r = .val (res a) ∨ ∃ ds, res a = .list ds ∧ r = .fresh ds }) :
    FnOk P w K mg base CX0 (k + 1) f fd ps (spF K args pre res) := by
  refine F.ok S (fun vs H Q E ⟨a, hd, _⟩ => by rw [dpa_len hd, hl]) (fun cdv A outer s H vs Q E hr hsp => ?_)
  obtain ⟨a, hd, hp, q⟩ := hsp
  obtain ⟨t, ht, hw⟩ := h cdv A outer s H E hr
  refine ⟨t, ht, (hw a hp).1 (se_start hd) ⟨fun G' H' σ' es' e eG S' => ?_, fun _ _ _ _ z => z.elim, fun _ _ _ _ z => z.elim, fun v H' r hr2 eG o => ?_⟩⟩
  · exact q .non H' (eG.trans S'.ex) (by rw [show res a = .none from e]; exact .non)
  · rcases hr2 with rfl | ⟨ds, e, rfl⟩
    · exact q v H' eG o
    · obtain ⟨p, xs, rfl, _, hp2, hx⟩ := o
      exact q _ H' eG (by rw [e]; exact .lst (.inl (.inl hp2)) (hx.up hide_ex))
/-- a def that gives a new list -/
theorem fn_lst {α : Type} {x qual : Str} {st : Stmt} {f : Addr} {fd : FuncData} {N ps : List Str} {k : Nat} {args : α → List PyData} {pre : α → Prop} {res : α → List PyData} (F : Fun K x qual st f fd) (S : FnScope N ps (defScope st)) (hl : ∀ a, (args a).length = ps.length)
    (h : ∀ (cdv : Value) (A : Around) (outer : List Env) (s : Shared) (H : Hp) (E : XK), Room k (A.deeper (envOfC qual (defScope st) s.heap.objs.size f cdv)) →
      ∃ t, PSs (cxOf CX0 P w K mg base N qual (defScope st) f cdv A outer s H E).nox (defBody st) t ∧ ∀ a, pre a → Ws K t (startE N (args a)) { rt := fun r => r = .fresh (res a) }) :
    FnOk P w K mg base CX0 (k + 1) f fd ps (spL K args pre res) := by
  refine F.ok S (fun vs H Q E ⟨a, hd, _⟩ => by rw [dpa_len hd, hl]) (fun cdv A outer s H vs Q E hr hsp => ?_)
  obtain ⟨a, hd, hp, q⟩ := hsp
  obtain ⟨t, ht, hw⟩ := h cdv A outer s H E hr
  refine ⟨t, ht, (hw a hp).1 (se_start hd) ⟨fun _ _ _ _ z => z.elim, fun _ _ _ _ z => z.elim, fun _ _ _ _ z => z.elim, fun v H' r hr2 eG o => ?_⟩⟩
  have e : r = .fresh (res a) := hr2
  subst e
  obtain ⟨p, xs, rfl, n, hp2, hx⟩ := o
  exact q p xs H' n eG hp2 hx
/-- a promise for fewer arguments -/
theorem fn_imp {α β : Type} {f : Addr} {fd : FuncData} {ps : List Str} {k : Nat} {args : α → List PyData} {pre : α → Prop} {res : α → PyData} {args' : β → List PyData} {pre' : β → Prop} {res' : β → PyData} (F : FnOk P w K mg base CX0 k f fd ps (spF K args pre res))
    (h : ∀ b, pre' b → ∃ a, args a = args' b ∧ pre a ∧ res a = res' b) : FnOk P w K mg base CX0 k f fd ps (spF K args' pre' res') :=
  F.imp fun vs H Q E ⟨b, hd, hp, q⟩ => by
    obtain ⟨a, e1, e2, e3⟩ := h b hp
    exact ⟨a, by rw [e1]; exact hd, e2, fun v H2 e hv => q v H2 e (by rw [← e3]; exact hv)⟩
end
theorem dpa_mkInts {K : PySem.W.Frag} {H : Hp} : ∀ {ns : List Int}, DpAll K H (ns.map V.int) (ns.map PyData.int)
  | [] => .nil
  | n :: ns => .cons (.int n) dpa_mkInts
/-! isinstance of plain kinds -/
theorem kb_int_int : kitB "int" "int" = some true := by decide +kernel
theorem kb_int_bool : kitB "int" "bool" = some false := by decide +kernel
theorem kb_int_str : kitB "int" "str" = some false := by decide +kernel
theorem kb_int_list : kitB "int" "list" = some false := by decide +kernel
theorem kb_int_tuple : kitB "int" "tuple" = some false := by decide +kernel
theorem kb_bool_int : kitB "bool" "int" = some true := by decide +kernel
theorem kb_bool_bool : kitB "bool" "bool" = some true := by decide +kernel
theorem kb_bool_str : kitB "bool" "str" = some false := by decide +kernel
theorem kb_bool_list : kitB "bool" "list" = some false := by decide +kernel
theorem kb_bool_tuple : kitB "bool" "tuple" = some false := by decide +kernel
theorem kb_str_int : kitB "str" "int" = some false := by decide +kernel
theorem kb_str_bool : kitB "str" "bool" = some false := by decide +kernel
theorem kb_str_str : kitB "str" "str" = some true := by decide +kernel
theorem kb_str_list : kitB "str" "list" = some false := by decide +kernel
theorem kb_str_tuple : kitB "str" "tuple" = some false := by decide +kernel
theorem kb_list_int : kitB "list" "int" = some false := by decide +kernel
theorem kb_list_bool : kitB "list" "bool" = some false := by decide +kernel
theorem kb_list_str : kitB "list" "str" = some false := by decide +kernel
theorem kb_list_list : kitB "list" "list" = some true := by decide +kernel
theorem kb_list_tuple : kitB "list" "tuple" = some false := by decide +kernel
theorem kb_tuple_int : kitB "tuple" "int" = some false := by decide +kernel
theorem kb_tuple_bool : kitB "tuple" "bool" = some false := by decide +kernel
theorem kb_tuple_str : kitB "tuple" "str" = some false := by decide +kernel
theorem kb_tuple_list : kitB "tuple" "list" = some false := by decide +kernel
theorem kb_tuple_tuple : kitB "tuple" "tuple" = some true := by decide +kernel
theorem kb_NoneType_int : kitB "NoneType" "int" = some false := by decide +kernel
theorem kb_NoneType_bool : kitB "NoneType" "bool" = some false := by decide +kernel
theorem kb_NoneType_str : kitB "NoneType" "str" = some false := by decide +kernel
theorem kb_NoneType_list : kitB "NoneType" "list" = some false := by decide +kernel
theorem kb_NoneType_tuple : kitB "NoneType" "tuple" = some false := by decide +kernel
theorem ev_slTb {K : PySem.W.Frag} {es : Es} {ta : TE} {ds : List PyData} {tl th : TO} {lo hi : Option Int} (ha : EvE K ta es (.tuple ds)) (hl : EvO K tl es lo) (hh : EvO K th es hi) (hn : (HT.sIx ds.length 0 lo == 0 && HT.sIx ds.length ds.length hi == ds.length) = false) :
    EvE K (tSl (rSlT K) ta tl th) es (.tuple (cutD ds lo hi)) := ev_slT ha hl hh fun z => by
  rw [beq_iff_eq.mpr z.1, beq_iff_eq.mpr z.2] at hn
  cases hn
/-! items at written places -/
theorem at0 {α : Type} {d : α} {ds : List α} : atI (d :: ds) 0 = some d := atI_nat (j := 0) rfl
theorem at1 {α : Type} {d e : α} {ds : List α} : atI (d :: e :: ds) 1 = some e := atI_nat (j := 1) rfl
theorem at2 {α : Type} {a b c : α} {ds : List α} : atI (a :: b :: c :: ds) 2 = some c := atI_nat (j := 2) rfl
theorem at3 {α : Type} {a b c d : α} {ds : List α} : atI (a :: b :: c :: d :: ds) 3 = some d := atI_nat (j := 3) rfl
theorem at4 {α : Type} {a b c d e : α} {ds : List α} : atI (a :: b :: c :: d :: e :: ds) 4 = some e := atI_nat (j := 4) rfl
theorem immAll_iff : ∀ {ds : List PyData}, (∀ d ∈ ds, imm d = true) → immAll ds = true
  | [], _ => rfl
  | d :: ds, h => by
    unfold immAll
    rw [h d List.mem_cons_self, immAll_iff fun x hx => h x (List.mem_cons_of_mem _ hx)]
    rfl
theorem wipe_get (σ : L2.St) (i : Nat) : ∀ vs : List Nat, (wipe σ vs)[i]? = if i ∈ vs then (if i < σ.length then some none else none) else σ[i]?
  | [] => by rw [if_neg (by simp)]; rfl
  | v :: vs => by
    show ((wipe σ vs).set v none)[i]? = _
    by_cases e : i = v
    · subst e
      rw [if_pos (by simp), List.getElem?_set, if_pos rfl, wipe_length]
    · rw [List.getElem?_set_ne (Ne.symm e), wipe_get σ i vs]
      by_cases h : i ∈ vs
      · rw [if_pos h, if_pos (List.mem_cons_of_mem _ h)]
      · rw [if_neg h, if_neg (by simp [e, h])]
theorem wipe_set {j : Nat} {vs : List Nat} (hj : j ∈ vs) (σ : L2.St) (x : Option V) : wipe ((wipe σ vs).set j x) vs = wipe σ vs := by
  refine List.ext_getElem? fun i => ?_
  rw [wipe_get, wipe_get, List.length_set, wipe_length]
  by_cases h : i ∈ vs
  · rw [if_pos h, if_pos h]
  · rw [if_neg h, if_neg h, List.getElem?_set_ne (show j ≠ i from fun e => h (by rw [← e]; exact hj)), wipe_get, if_neg h]
end Pu

namespace Pu
open PySem PySem.Spec L2
open Evl (Ex fresh_back sz_of sz_lt ex_l ex_t rLenS rMax2 rListS)
open PyProof.Rows (envOfC list_addW)

/-! ### list + list, whoever knows them -/
def rCatA (K : PySem.W.Frag) : R2 := fun x y H Q => ∃ l b xs zs, x = .ref l ∧ y = .ref b ∧ SqL K H l xs ∧ SqL K H b zs ∧ xs.length + zs.length ≤ sizeLine ∧ ∀ p, H p = none → Q (.ref p) (upd H p (.lst (xs ++ zs)))
theorem op_catA {X : Cx} : OpR X (binaryOp .Add) (rCatA X.K) := by
  intro pins s σ H x y v u Q I rx ry h
  obtain ⟨l, b, xs, zs, rfl, rfl, hH, hB, hz, q⟩ := h
  cases rx
  cases ry
  obtain ⟨its, r, ⟨⟨c1, d1, t1, s1⟩, n, e1, hc1, hd1, ht1⟩, z1⟩ := I.list hH
  obtain ⟨its2, r2, ⟨⟨c2, d2, t2, s2⟩, n2, e2, hc2, hd2, ht2⟩, z2⟩ := I.list hB
  simp only at hc1 hd1 ht1 hc2 hd2 ht2
  subst hc1 hd1 ht1 hc2 hd2 ht2
  have l1 := r.length
  have l2 := r2.length
  refine concat_meets ⟨_, e1, rfl⟩ ⟨_, e2, rfl⟩ noFill_list_add seq_list_add PySem.F.slot_list_add PySem.F.entry_list_add (PySem.F.args_list_add_2 _ _) (list_addW l b its.toArray its2.toArray n n2 none none s1 s2 (by simp only [List.size_toArray]; omega)) ⟨e1, e2, ?_⟩
  have ea : its.toArray ++ its2.toArray = (its ++ its2).toArray := by simp
  rw [ea]
  exact ⟨.ref _, _, I.lnew (t' := s.toks) (r.append r2) (by rw [List.length_append]; omega), rfl, q _ I.fresh⟩
section
variable {K : PySem.W.Frag} {es : Es} {ta tb te tl : TE} {tc tt : TT} {t u : TS} {d e : PyData} {ds ds' : List PyData} {P : Post}
theorem ef_catA (ha : EvE K ta es (.list ds)) (hb : EvE K tb es (.list ds')) (hz : ds.length + ds'.length ≤ 100000) : EvF K (tOp (rCatA K) ta tb) es (ds ++ ds') := .mk fun {G H σ} S {H1} e1 {Q} q =>
  ha.1 S e1 fun x H2 e2 hx => hb.1 S (e1.trans e2) fun y H3 e3 hy => by
    obtain ⟨p, xs, rfl, hs, hd⟩ := dp_lst (hx.up (grow_mono e3))
    obtain ⟨p', ys, rfl, hs', hd'⟩ := dp_lst hy
    refine ⟨p, p', xs, ys, rfl, rfl, ex_l grow_ex hs, ex_l grow_ex hs', sz_of (by rw [dpa_len hd, dpa_len hd']; exact hz), fun r hr => q r _ _ (fresh_back (e2.trans e3) hr) ((e2.trans e3).trans (Evl.Ex.new hr)) upd_same ?_⟩
    exact (dpa_app hd hd').up (ex_hide (grow_mono (Evl.Ex.new hr)) (grow_none hr))

/-! ### reversed -/
theorem rev_get {α : Type} {xs : List α} {i : Nat} (h : i < xs.length) : xs.reverse[i]? = xs[xs.length - 1 - i]? := by
  rw [List.getElem?_reverse h]
theorem it_revL {G : Hp} {a : Addr} {xs : List V} (hs : SqL K G a xs) (hd : DpAll K G xs ds) : ItOk K G (Itv K a xs.length) ds.reverse where
  go := fun i H' e hi => by
    rw [List.length_reverse, ← dpa_len hd] at hi
    exact ⟨hi, xs, _, ex_l e hs, List.getElem?_eq_getElem (by omega)⟩
  yld := fun i x H' H'' e hi y => by
    obtain ⟨e1, y⟩ := y
    rw [List.length_reverse] at hi
    have hl := dpa_len hd
    obtain ⟨v, hv, hdv⟩ := dpa_at hd (i := ds.length - 1 - i) (List.getElem?_eq_getElem (by omega))
    have := y xs (ex_l e hs)
    rw [hl, hv] at this
    cases this
    exact ⟨e1, _, by rw [rev_get hi, List.getElem?_eq_getElem (by omega)], hdv⟩
  stop := fun H' e => by rw [List.length_reverse, ← dpa_len hd]; exact Nat.le_refl _
theorem it_revT {G : Hp} {a : Addr} {xs : List V} (hs : SqT K G a xs) (hd : DpAll K G xs ds) : ItOk K G (RT.ItvT K a xs.length) ds.reverse where
  go := fun i H' e hi => by
    rw [List.length_reverse, ← dpa_len hd] at hi
    exact ⟨hi, xs, _, ex_t e hs, List.getElem?_eq_getElem (by omega)⟩
  yld := fun i x H' H'' e hi y => by
    obtain ⟨e1, y⟩ := y
    rw [List.length_reverse] at hi
    have hl := dpa_len hd
    obtain ⟨v, hv, hdv⟩ := dpa_at hd (i := ds.length - 1 - i) (List.getElem?_eq_getElem (by omega))
    have := y xs (ex_t e hs)
    rw [hl, hv] at this
    cases this
    exact ⟨e1, _, by rw [rev_get hi, List.getElem?_eq_getElem (by omega)], hdv⟩
  stop := fun H' e => by rw [List.length_reverse, ← dpa_len hd]; exact Nat.le_refl _
theorem ei_revL (h : EvE K tl es (.list ds)) : EvI K (RT.iRevA K tl) es ds.reverse := .mk fun {G H σ} S {H1} e1 {R} q => h.1 S e1 fun x H2 e2 hx => by
  obtain ⟨p, xs, rfl, hs, hd⟩ := dp_lst hx
  exact ⟨p, xs, rfl, .inl ⟨ex_l grow_ex hs, q _ H2 e2 (it_revL hs hd)⟩⟩
theorem ei_revT (h : EvE K tl es (.tuple ds)) : EvI K (RT.iRevA K tl) es ds.reverse := .mk fun {G H σ} S {H1} e1 {R} q => h.1 S e1 fun x H2 e2 hx => by
  obtain ⟨p, xs, rfl, hs, hd⟩ := dp_tup hx
  exact ⟨p, xs, rfl, .inr ⟨ex_t grow_ex hs, q _ H2 e2 (it_revT hs hd)⟩⟩

/-! ### a loop over few written items, turn by turn -/
def Unr (K : PySem.W.Frag) (tb : TS) (j : Nat) (P : Post) : List PyData → Es → Prop
  | [], e => P.nx e
  | d :: r, e => Ws K tb (e.set j (.dat d)) ⟨Unr K tb j P r, P.rt, P.nx, Unr K tb j P r⟩
theorem w_forU {wi : TI} {j : Nat} {tb : TS} (h : EvI K wi es ds) (hu : Unr K tb j P ds es) : Ws K (tFor wi (gName j) tb) es P := by
  refine w_forN h (fun i e => Unr K tb j P (ds.drop i) e) hu (fun i d e hd hv => ?_) (fun e hv => ?_)
  · obtain ⟨hi, hg⟩ := List.getElem?_eq_some_iff.mp hd
    rw [List.drop_eq_getElem_cons hi, hg] at hv
    exact hv
  · rw [List.drop_length] at hv
    exact hv

/-! ### a comprehension, its items told one by one -/
theorem ef_lcX {wi : TI} {j : Nat} {vs : List Nat} (rs : List PyData) (h : EvI K wi es ds) (hz : ds.length ≤ 50000) (hj : ∀ σ x, wipe ((wipe σ vs).set j x) vs = wipe σ vs) (hl : rs.length = ds.length)
    (he : ∀ (i : Nat) (d r : PyData), ds[i]? = some d → rs[i]? = some r → EvE K te ((wipeE es vs).set j (.dat d)) r) : EvF K (tLc wi (gName j) tYes te vs) es rs := .mk fun {G H σ} S {H1} e1 {Q} q =>
  h.1 S e1 fun J H2 e2 hJ Dl hD => by
    have e12 := e1.trans e2
    have hn : H Dl = none := fresh_back e12 hD
    refine ⟨fun i m H' => m = ds.length - i ∧ i ≤ ds.length ∧ Ex H2 H' ∧ ∃ acc, H' Dl = some (.lst acc) ∧ DpAll K (hide Dl (grow G H H')) acc (rs.take i), ⟨ds.length, by simp, Nat.zero_le _, Evl.Ex.new hD, [], upd_same, .nil⟩, ?_⟩
    rintro i m H' ⟨rfl, hi, eH, acc, ha, hda⟩
    have e' : Ex H H' := e12.trans eH
    by_cases hlt : i < ds.length
    · refine .inr ⟨hJ.go i H' (grow_ex.trans eH) hlt, fun H' => ds.length - (i + 1) = ds.length - (i + 1) ∧ i + 1 ≤ ds.length ∧ Ex H2 H' ∧ ∃ acc, H' Dl = some (.lst acc) ∧ DpAll K (hide Dl (grow G H H')) acc (rs.take (i + 1)), fun H3 w => ⟨ds.length - (i + 1), by omega, w⟩, fun x H3 y => ?_⟩
      obtain ⟨rfl, d, hdi, hx⟩ := hJ.yld i x H' H3 (grow_ex.trans eH) hlt y
      have hr : rs[i]? = some rs[i] := List.getElem?_eq_getElem (by omega)
      have S2 := ((S.within hn e' ha).wipe vs).putDat j (hx.up (ex_hide (grow_mono eH) (grow_none hD)))
      have lacc : acc.length ≤ i := by
        rw [dpa_len hda, List.length_take]
        exact Nat.min_le_left _ _
      refine ⟨hj σ (some x), ?_⟩
      rw [tYes_at]
      rw [if_pos rfl]
      refine (he i d _ hdi hr).1 S2 (Evl.Ex.refl _) fun z H5 e5 hz' => ?_
      have a5 : H5 Dl = some (.lst acc) := e5 _ _ ha
      refine ⟨acc, a5, sz_lt (by omega), rfl, hlt, Evl.Ex.mut (eH.trans e5) hD, acc ++ [z], upd_same, ?_⟩
      rw [List.take_add_one, hr, hide_upd]
      exact dpa_snoc (hda.up (hide_mono (grow_mono e5))) (hz'.up (within_ex e' ha))
    · have e : i = ds.length := by omega
      subst e
      refine .inl ⟨hJ.stop H' (grow_ex.trans eH), q Dl acc H' (fresh_back e2 hD) (e2.trans eH) ha ?_⟩
      rw [← hl, List.take_length] at hda
      exact hda

/-! ### truth -/
theorem eb_truL (h : EvX K ta es (.list ds)) : EvB K (tTru K ta) es (!ds.isEmpty) := .mk fun {_ _ _} S {_} e1 {_} q => h.1 S e1 fun x H2 e2 hx => by
  obtain ⟨p, xs, rfl, hs, hd⟩ := dp_lst hx
  refine ⟨_, .inl ⟨xs, hs, rfl⟩, ?_⟩
  have e : xs.isEmpty = ds.isEmpty := by
    cases hd <;> rfl
  rw [e]
  exact q H2 e2
theorem eb_truT (h : EvX K ta es (.tuple ds)) : EvB K (tTru K ta) es (!ds.isEmpty) := .mk fun {_ _ _} S {_} e1 {_} q => h.1 S e1 fun x H2 e2 hx => by
  obtain ⟨p, xs, rfl, hs, hd⟩ := dp_tup hx
  refine ⟨_, .inr (.inl ⟨xs, hs, rfl⟩), ?_⟩
  have e : xs.isEmpty = ds.isEmpty := by
    cases hd <;> rfl
  rw [e]
  exact q H2 e2
theorem eb_truB {b : Bool} (h : EvX K ta es (.bool b)) : EvB K (tTru K ta) es b := .mk fun {_ _ _} S {_} e1 {_} q => h.1 S e1 fun x H2 e2 hx => by
  rw [dp_bl hx]
  exact ⟨b, rfl, q H2 e2⟩
theorem eb_truI {i : Int} (h : EvX K ta es (.int i)) : EvB K (tTru K ta) es (i != 0) := .mk fun {_ _ _} S {_} e1 {_} q => h.1 S e1 fun x H2 e2 hx => by
  rw [dp_int hx]
  exact ⟨_, rfl, q H2 e2⟩
/-- x is None, x is not None -/
def isNon : PyData → Bool
  | .none => true
  | _ => false
theorem ev_isN : EvX K ta es d → EvE K (tOp (fun x y H Q => y = .non ∧ Q (.bl (decide (x = .non))) H) ta (tC .non)) es (.bool (isNon d)) := fun h =>
  ev_op2 h (ev_weak ev_non) fun x y H hx hy Q q => ⟨dp_non hy, by
    have e : decide (x = V.non) = isNon d := by
      cases hx <;> rfl
    rw [e]
    exact q _ fun _ => .bl _⟩

/-! ### xs[k] = ys.pop() -/
theorem w_setPop {i k n : Nat} {z : Int} {xs : List PyData} (hik : i ≠ k) (hi : es[i]? = some (Ent.own (ds ++ [d]))) (hk : es[k]? = some (Ent.own xs)) (hb : EvX K tb (es.set i (.own ds)) (.int z)) (hz : ixN xs.length z = some n)
    (hn : P.nx ((es.set i (.own ds)).set k (.own (xs.set n d)))) : Ws K (tAsg (tBM0 K "list" rPop (tVar i)) (gSub (tVar k) tb rSetL)) es P := .mk fun {G H σ D} S kk => by
  obtain ⟨p, ys, hv, gp, hp, hd⟩ := S.own i _ hi
  have hl := dpa_len hd
  rw [List.length_append] at hl
  have hl : ys.length = ds.length + 1 := hl
  obtain ⟨v, hx, hdv⟩ := dpa_at (i := ds.length) (d := d) hd (by rw [List.getElem?_append_right (Nat.le_refl _), Nat.sub_self]; rfl)
  have hd2 : DpAll K G ys.dropLast ds := by
    have q := dpa_dropLast hd
    rw [List.dropLast_concat] at q
    exact q
  have S2 := S.write hi hv hd2
  have hk2 : (es.set i (.own ds))[k]? = some (Ent.own xs) := by rw [get_set_ne (Ne.symm hik)]; exact hk
  obtain ⟨p2, xs2, hv2, gp2, hp2, hdx⟩ := S2.own k _ hk2
  refine ⟨_, hv, .inl ⟨rfl, ys, .inl (.inl hp)⟩, p, ys, v, rfl, rfl, hp, by rw [hl]; exact hx, ?_⟩
  refine ⟨_, hv2, hb.1 S2 (Evl.Ex.refl _) fun w H3 e3 hw => ?_⟩
  refine ⟨p2, xs2, z, n, rfl, dp_int hw, e3 _ _ hp2, by rw [dpa_len hdx]; exact hz, ?_⟩
  exact kk.nx _ _ _ _ hn (ex_grow S2.ex e3) ((S2.grow e3).write hk2 hv2 (dpa_set n (hdx.up (ex_grow S2.ex e3)) (hdv.up (ex_grow S2.ex e3))))

/-! ### tables of the module: texts to tuples of ints -/
def KTup (K : PySem.W.Frag) (t : Addr) (ns : List Int) : Prop := ∃ (o : Obj) (its : Array Value) (n : Nat), K.lookup t = some o ∧ o.cls = .type "tuple" ∧ o.data = .seq its n ∧ its.size ≤ sizeLine ∧ Vals (ns.map V.int) its.toList
def DTab (K : PySem.W.Frag) (w : World) (a : Addr) (z : Str) (ns : List Int) : Prop := ∃ t, KDct K w a z (.ref t) ∧ KTup K t ns
theorem ev_ixD {w : World} {a : Addr} {z : Str} {ns : List Int} (hb : EvX K tb es (.str z)) (h : DTab K w a z ns) : EvE K (tOp (rIxD K w) (tC (.ref a)) tb) es (.tuple (ns.map PyData.int)) := .mk fun {G H σ} S {H1} e1 {Q} q =>
  hb.1 S e1 fun y H3 e3 hy => by
    obtain ⟨t, hk, ht⟩ := h
    exact ⟨a, z, .ref t, rfl, dp_str hy, hk, q _ H3 e3 (.tup (.inr ht) dpa_mkInts)⟩
theorem dtab_mk {w : World} {a t : Addr} {z : Str} {ns : List Int} {es : Array DictEntry} {n n2 : Nat} {its : Array Value} {dd : Option Addr} {sl : Array (Option Value)} (hl : K.lookup a = some ⟨.type "dict", none, .dict es n, #[]⟩) (hk : PySem.W.KeysLit w.params es.toList)
    (he : PySem.W.nsIn K a z = some (some (.ref t))) (ht : K.lookup t = some ⟨.type "tuple", dd, .seq its n2, sl⟩) (hz : its.size ≤ sizeLine) (hv : Vals (ns.map V.int) its.toList) : DTab K w a z ns :=
  ⟨t, ⟨es, n, _, hl, hk, he, rfl⟩, _, its, n2, ht, rfl, rfl, hz, hv⟩

/-! ### x in [texts] -/
theorem inV_strs {x : Str} : ∀ {ss : List Str}, inV (.str x) (ss.map V.str) = ss.any fun y => y == x
  | [] => rfl
  | s :: ss => by
    show (eqV (.str s) (.str x) || inV (.str x) (ss.map V.str)) = ((s == x) || ss.any fun y => y == x)
    rw [inV_strs]
    rfl
theorem flat_strs : ∀ {ss : List Str}, (ss.map V.str).all flatV = true
  | [] => rfl
  | s :: ss => by
    show (true && (ss.map V.str).all flatV) = true
    rw [flat_strs]
    rfl
theorem dpa_strs {H : Hp} : ∀ {ss : List Str} {xs : List V}, DpAll K H xs (ss.map PyData.str) → xs = ss.map V.str
  | [], _, h => dpa_nil h
  | n :: ns, _, h => by
    obtain ⟨v, r, rfl, a, b⟩ := dpa_cons h
    rw [dp_str a, dpa_strs b]
    rfl
theorem ev_inS {x : Str} {ss : List Str} (ha : EvX K ta es (.str x)) (hb : EvX K tb es (.list (ss.map PyData.str))) : EvE K (tOp (rIn K false) ta tb) es (.bool (ss.any fun y => y == x)) :=
  ev_op2 ha hb fun v y H hv hy Q q => by
    obtain ⟨p, xs, rfl, hs, hd⟩ := dp_lst hy
    rw [dp_str hv]
    rw [dpa_strs hd] at hs
    refine ⟨p, _, rfl, .inl hs, rfl, flat_strs, ?_⟩
    show Q (.bl (inV (.str x) (ss.map V.str))) H
    rw [inV_strs]
    exact q _ fun _ => .bl _

/-! ### the last items, all but the last -/
theorem at_m1 {α : Type} {s : List α} {a : α} : atI (s ++ [a]) (-1) = some a := atI_last s a
theorem at_back {α : Type} {s r : List α} {a : α} {k : Int} (hk : k = -((r.length : Int) + 1)) : atI (s ++ a :: r) k = some a := by
  have hl : (s ++ a :: r).length = s.length + (r.length + 1) := by rw [List.length_append, List.length_cons]
  have e : ixN (s ++ a :: r).length k = some s.length := by
    unfold ixN
    rw [hl, if_neg (by omega), if_pos (by omega)]
    congr 1
    omega
  unfold atI
  rw [e]
  show (s ++ a :: r)[s.length]? = some a
  rw [List.getElem?_append_right (Nat.le_refl _), Nat.sub_self]
  rfl
theorem at_m2 {α : Type} {s : List α} {a b : α} : atI (s ++ [a, b]) (-2) = some a := at_back rfl
theorem at_m1' {α : Type} {s : List α} {a b : α} : atI (s ++ [a, b]) (-1) = some b := by
  have h : s ++ [a, b] = (s ++ [a]) ++ [b] := by simp
  rw [h]
  exact at_m1
theorem at_m3 {α : Type} {s : List α} {a b c : α} : atI (s ++ [a, b, c]) (-3) = some a := at_back rfl
theorem at_m2' {α : Type} {s : List α} {a b c : α} : atI (s ++ [a, b, c]) (-2) = some b := by
  have h : s ++ [a, b, c] = (s ++ [a]) ++ [b, c] := by simp
  rw [h]
  exact at_m2
theorem at_m1'' {α : Type} {s : List α} {a b c : α} : atI (s ++ [a, b, c]) (-1) = some c := by
  have h : s ++ [a, b, c] = (s ++ [a, b]) ++ [c] := by simp
  rw [h]
  exact at_m1
theorem cut_back {s r : List PyData} {k : Int} (hk : k = -(r.length : Int)) (h0 : k < 0) : cutD (s ++ r) none (some k) = s := by
  unfold cutD
  have e : HT.sIx (s ++ r).length (s ++ r).length (some k) = s.length := by
    show (if k < 0 then (k + ((s ++ r).length : Int)).toNat else _) = _
    rw [if_pos h0, List.length_append]
    omega
  rw [e, HT.sIx_none, Nat.sub_zero, List.drop_zero, List.take_left']
  rfl
theorem cut_fix {s : List PyData} {a b : Nat} : cutD s (some (a : Nat)) (some (b : Nat)) = (s.drop a).take (b - a) := by
  unfold cutD
  rw [HT.sIx_nat, HT.sIx_nat]
  by_cases h : a ≤ s.length
  · rw [show min a s.length = a by omega]
    by_cases h2 : b ≤ s.length
    · rw [show min b s.length = b by omega]
    · rw [show min b s.length = s.length by omega, List.take_of_length_le (by rw [List.length_drop]; omega), List.take_of_length_le (by rw [List.length_drop]; omega)]
  · rw [show min a s.length = s.length by omega, List.drop_eq_nil_of_le (Nat.le_refl _), List.drop_eq_nil_of_le (show s.length ≤ a by omega), List.take_nil, List.take_nil]
end
/-! the same rules with the written part named (within a comprehension) -/
theorem pt_tru {X : Cx} {K : PySem.W.Frag} {a : Expr} {ta : TE} (h : X.K = K) (ha : PE X a ta) (he : ∀ whole, isTrue a X.env whole = (do let v ← whole; standAt a.pos; holding [v] (truthy v))) : PT X a (tTru K ta) := by
  subst h
  exact pt_truth ha he
theorem ix_tupK {X : Cx} {K : PySem.W.Frag} (h : X.K = K) : IxR X (rIxT K) := h ▸ ix_tup
theorem ix_listK {X : Cx} {K : PySem.W.Frag} (h : X.K = K) : IxR X (rIxL K) := h ▸ ix_list
theorem op_eqDK {X : Cx} {K : PySem.W.Frag} (h : X.K = K) (hu : X.A.units + 64 < cLine) : OpR X (compareOp .Eq) (rEqD K) := h ▸ op_eqD hu
theorem op_neDK {X : Cx} {K : PySem.W.Frag} (h : X.K = K) (hu : X.A.units + 64 < cLine) : OpR X (compareOp .NotEq) (rNeD K) := h ▸ op_neD hu
theorem call_isiKK {X : Cx} {K : PySem.W.Frag} (h : X.K = K) : CallR X (.builtin "isinstance") (rIsi K) := h ▸ call_isi
theorem call_len_seqK {X : Cx} {K : PySem.W.Frag} (h : X.K = K) : CallR X (.builtin "len") (rLenS K) := h ▸ call_len_seq
theorem ix_kdictK {X : Cx} {K : PySem.W.Frag} {w : World} (h : X.K = K) (h2 : X.w = w) : IxR X (rIxD K w) := h ▸ h2 ▸ ix_kdict
end Pu

/-! rules as data of our own -/
namespace Pr
open PySem PySem.Spec L2 Pu
structure Rf where
  r : Int
  c : Int
  rs : Bool
  cs : Bool
def Rf.d (x : Rf) : PyData := .tuple [.int x.r, .int x.c, .bool x.rs, .bool x.cs]
inductive Rl where
  | num (n : Int)
  | cell (p : Rf)
  | add (a b : Rl)
  | sub (a b : Rl)
  | mul (a b : Rl)
  | pick (a b c : Rl)
  | sum (p q : Rf)
  | most (p q : Rf)
  | look (a : Rl) (p q : Rf) (b : Rl)
namespace Rl
def d : Rl → PyData
  | num n => .tuple [.str "num", .int n]
  | cell p => .tuple [.str "cell", p.d]
  | add a b => .tuple [.str "add", a.d, b.d]
  | sub a b => .tuple [.str "sub", a.d, b.d]
  | mul a b => .tuple [.str "mul", a.d, b.d]
  | pick a b c => .tuple [.str "pick", a.d, b.d, c.d]
  | sum p q => .tuple [.str "sum", p.d, q.d]
  | most p q => .tuple [.str "most", p.d, q.d]
  | look a p q b => .tuple [.str "look", a.d, p.d, q.d, b.d]
def inner : Rl → List Rl
  | num _ => []
  | cell _ => []
  | add a b => [a, b]
  | sub a b => [a, b]
  | mul a b => [a, b]
  | pick a b c => [a, b, c]
  | sum _ _ => []
  | most _ _ => []
  | look a _ _ b => [a, b]
def size : Rl → Nat
  | num _ => 1
  | cell _ => 1
  | add a b => a.size + b.size + 1
  | sub a b => a.size + b.size + 1
  | mul a b => a.size + b.size + 1
  | pick a b c => a.size + b.size + c.size + 1
  | sum _ _ => 1
  | most _ _ => 1
  | look a _ _ b => a.size + b.size + 1
/-- itself, then what stands within it, from the right -/
def outer : Rl → List Rl
  | num n => [num n]
  | cell p => [cell p]
  | add a b => add a b :: (b.outer ++ a.outer)
  | sub a b => sub a b :: (b.outer ++ a.outer)
  | mul a b => mul a b :: (b.outer ++ a.outer)
  | pick a b c => pick a b c :: (c.outer ++ (b.outer ++ a.outer))
  | sum p q => [sum p q]
  | most p q => [most p q]
  | look a p q b => look a p q b :: (b.outer ++ a.outer)
theorem outer_eq (r : Rl) : r.outer = r :: r.inner.reverse.flatMap outer := by
  cases r <;> simp [outer, inner]
theorem outer_len (r : Rl) : r.outer.length = r.size := by
  induction r with
  | num _ => rfl
  | cell _ => rfl
  | sum _ _ => rfl
  | most _ _ => rfl
  | add a b h1 h2 => simp only [outer, size, List.length_cons, List.length_append]; omega
  | sub a b h1 h2 => simp only [outer, size, List.length_cons, List.length_append]; omega
  | mul a b h1 h2 => simp only [outer, size, List.length_cons, List.length_append]; omega
  | pick a b c h1 h2 h3 => simp only [outer, size, List.length_cons, List.length_append]; omega
  | look a p q b h1 h2 => simp only [outer, size, List.length_cons, List.length_append]; omega
theorem size_pos (r : Rl) : 0 < r.size := by
  cases r <;> simp only [size] <;> omega
theorem size_inner (r : Rl) : r.size = (r.inner.map size).sum + 1 := by
  cases r <;> simp [size, inner] <;> omega
theorem imm_d (r : Rl) : imm r.d = true := by
  induction r with
  | num _ => rfl
  | cell _ => rfl
  | sum _ _ => rfl
  | most _ _ => rfl
  | add a b h1 h2 => simp [d, imm, immAll, h1, h2]
  | sub a b h1 h2 => simp [d, imm, immAll, h1, h2]
  | mul a b h1 h2 => simp [d, imm, immAll, h1, h2]
  | pick a b c h1 h2 h3 => simp [d, imm, immAll, h1, h2, h3]
  | look a p q b h1 h2 => simp [d, imm, immAll, h1, h2, Rf.d]
theorem imm_all (rs : List Rl) : immAll (rs.map d) = true := immAll_iff fun x hx => by
  obtain ⟨r, _, rfl⟩ := List.mem_map.mp hx
  exact imm_d r
theorem len_le (W : List Rl) : W.length ≤ (W.map size).sum := by
  induction W with
  | nil => exact Nat.le_refl _
  | cons r W ih =>
    rw [List.length_cons, List.map_cons, List.sum_cons]
    have := size_pos r
    omega
theorem flat_len (W : List Rl) : (W.reverse.flatMap outer).length = (W.map size).sum := by
  rw [List.length_flatMap, List.map_reverse, List.sum_reverse]
  congr 1
  exact List.map_congr_left fun r _ => outer_len r
end Rl
/-- the item of a tuple at a place -/
def gx (ds : List PyData) : PyData → PyData
  | .int k => (atI ds k).getD .none
  | _ => .none
/-! the script's cells -/
def cell (ns : List Int) (k : Nat) : Int := ns.getD k 0
theorem ints_at {ns : List Int} {k : Nat} (h : k < ns.length) : atI (ns.map PyData.int) (k : Nat) = some (.int (cell ns k)) := by
  refine atI_nat ?_
  rw [List.getElem?_map, List.getElem?_eq_getElem h]
  unfold cell
  rw [List.getD_eq_getElem?_getD, List.getElem?_eq_getElem h]
  rfl
/-! ### what stands in a rule's tuple -/
inductive Pt where
  | s (x : Str)
  | i (n : Int)
  | b (x : Bool)
  | rf (x : Rf)
  | rl (r : Rl)
def Pt.d : Pt → PyData
  | .s x => .str x
  | .i n => .int n
  | .b x => .bool x
  | .rf x => x.d
  | .rl r => r.d
def Rl.parts : Rl → List Pt
  | .num n => [.s "num", .i n]
  | .cell p => [.s "cell", .rf p]
  | .add a b => [.s "add", .rl a, .rl b]
  | .sub a b => [.s "sub", .rl a, .rl b]
  | .mul a b => [.s "mul", .rl a, .rl b]
  | .pick a b c => [.s "pick", .rl a, .rl b, .rl c]
  | .sum p q => [.s "sum", .rf p, .rf q]
  | .most p q => [.s "most", .rf p, .rf q]
  | .look a p q b => [.s "look", .rl a, .rf p, .rf q, .rl b]
theorem Rl.d_parts (r : Rl) : r.d = .tuple (r.parts.map Pt.d) := by cases r <;> rfl
theorem Rl.parts_len (r : Rl) : r.parts.length ≤ 5 := by cases r <;> exact Nat.le_of_ble_eq_true rfl
def Rf.parts (x : Rf) : List Pt := [.i x.r, .i x.c, .b x.rs, .b x.cs]
theorem ty_rl (r : Rl) : tyName r.d = "tuple" := by cases r <;> rfl
theorem kb_rl_tuple (r : Rl) : kitB (tyName r.d) "tuple" = some true := by rw [ty_rl]; exact kb_tuple_tuple
theorem kb_rl_bool (r : Rl) : kitB (tyName r.d) "bool" = some false := by rw [ty_rl]; exact kb_tuple_bool
theorem kb_rl_int (r : Rl) : kitB (tyName r.d) "int" = some false := by rw [ty_rl]; exact kb_tuple_int
theorem kb_rl_str (r : Rl) : kitB (tyName r.d) "str" = some false := by rw [ty_rl]; exact kb_tuple_str
/-- how deep the tuples stand -/
def Rl.dep : Rl → Nat
  | .num _ => 1
  | .cell _ => 2
  | .add a b => max a.dep b.dep + 1
  | .sub a b => max a.dep b.dep + 1
  | .mul a b => max a.dep b.dep + 1
  | .pick a b c => max a.dep (max b.dep c.dep) + 1
  | .sum _ _ => 2
  | .most _ _ => 2
  | .look a _ _ b => max a.dep b.dep + 1
theorem Rl.dep_pos (r : Rl) : 1 ≤ r.dep := by cases r <;> simp only [Rl.dep] <;> omega
theorem Rl.dep_size (r : Rl) : r.dep ≤ r.size + 1 := by
  induction r with
  | num _ => simp only [Rl.dep, Rl.size]; omega
  | cell _ => simp only [Rl.dep, Rl.size]; omega
  | sum _ _ => simp only [Rl.dep, Rl.size]; omega
  | most _ _ => simp only [Rl.dep, Rl.size]; omega
  | add a b h1 h2 => have := a.size_pos; have := b.size_pos; simp only [Rl.dep, Rl.size]; omega
  | sub a b h1 h2 => have := a.size_pos; have := b.size_pos; simp only [Rl.dep, Rl.size]; omega
  | mul a b h1 h2 => have := a.size_pos; have := b.size_pos; simp only [Rl.dep, Rl.size]; omega
  | pick a b c h1 h2 h3 => have := a.size_pos; have := b.size_pos; have := c.size_pos; simp only [Rl.dep, Rl.size]; omega
  | look a p q b h1 h2 => have := a.size_pos; have := b.size_pos; simp only [Rl.dep, Rl.size]; omega
def Pt.dep : Pt → Nat
  | .s _ => 0
  | .i _ => 0
  | .b _ => 0
  | .rf _ => 1
  | .rl r => r.dep
theorem Rl.parts_dep (r : Rl) : ∀ p ∈ r.parts, p.dep < r.dep := by
  cases r with
  | num n => simp [Rl.parts, Pt.dep, Rl.dep]
  | cell p => simp [Rl.parts, Pt.dep, Rl.dep]
  | sum p q => simp [Rl.parts, Pt.dep, Rl.dep]
  | most p q => simp [Rl.parts, Pt.dep, Rl.dep]
  | add a b => simp [Rl.parts, Pt.dep, Rl.dep]; omega
  | sub a b => simp [Rl.parts, Pt.dep, Rl.dep]; omega
  | mul a b => simp [Rl.parts, Pt.dep, Rl.dep]; omega
  | pick a b c => simp [Rl.parts, Pt.dep, Rl.dep]; omega
  | look a p q b => have := a.dep_pos; simp [Rl.parts, Pt.dep, Rl.dep]; omega
theorem Pt.imm_d (p : Pt) : imm p.d = true := by
  cases p with
  | rl r => exact r.imm_d
  | _ => rfl
end Pr

namespace K03
open PySem PySem.Spec L2 Pu
open Evl (Ex rLenS rMax2 rListS)
open PyProof.Rows (envOfC)
def topS (i : Nat) : Stmt := PySem.Challenge.pw_rulesheet_k03_shifted.main.body.getD i (.Pass ⟨0, 0, 0, 0⟩)
abbrev s_inner_rules : Stmt := topS 3
theorem sc_inner_rules : FnScope ["rule", "at"] ["rule"] (defScope s_inner_rules) := ⟨rfl, rfl, rfl, by decide +kernel, rfl, by decide +kernel, by decide +kernel⟩
abbrev s_outer_first : Stmt := topS 4
theorem sc_outer_first : FnScope ["rule", "found", "waiting", "one"] ["rule"] (defScope s_outer_first) := ⟨rfl, rfl, rfl, by decide +kernel, rfl, by decide +kernel, by decide +kernel⟩
abbrev s_moved : Stmt := topS 5
theorem sc_moved : FnScope ["reference", "down", "right", "row", "column", "row_stays", "column_stays"] ["reference", "down", "right"] (defScope s_moved) := ⟨rfl, rfl, rfl, by decide +kernel, rfl, by decide +kernel, by decide +kernel⟩
abbrev s_shifted : Stmt := topS 6
theorem sc_shifted : FnScope ["rule", "down", "right", "done", "one", "parts", "at"] ["rule", "down", "right"] (defScope s_shifted) := ⟨rfl, rfl, rfl, by decide +kernel, rfl, by decide +kernel, by decide +kernel⟩
abbrev s__law_cell_at : Stmt := topS 8
theorem sc__law_cell_at : FnScope ["_law_script", "_law_k"] ["_law_script", "_law_k"] (defScope s__law_cell_at) := ⟨rfl, rfl, rfl, by decide +kernel, rfl, by decide +kernel, by decide +kernel⟩
abbrev s__law_ref_by : Stmt := topS 9
theorem sc__law_ref_by : FnScope ["_law_cell"] ["_law_cell"] (defScope s__law_ref_by) := ⟨rfl, rfl, rfl, by decide +kernel, rfl, by decide +kernel, by decide +kernel⟩
abbrev s__law_leaf_by : Stmt := topS 10
theorem sc__law_leaf_by : FnScope ["_law_cell", "_law_more"] ["_law_cell"] (defScope s__law_leaf_by) := ⟨rfl, rfl, rfl, by decide +kernel, rfl, by decide +kernel, by decide +kernel⟩
abbrev s__law_pushed : Stmt := topS 11
theorem sc__law_pushed : FnScope ["_law_stack", "_law_cell", "_law_more", "_law_other"] ["_law_stack", "_law_cell"] (defScope s__law_pushed) := ⟨rfl, rfl, rfl, by decide +kernel, rfl, by decide +kernel, by decide +kernel⟩
abbrev s__law_is_ref : Stmt := topS 12
theorem sc__law_is_ref : FnScope ["_law_part"] ["_law_part"] (defScope s__law_is_ref) := ⟨rfl, rfl, rfl, by decide +kernel, rfl, by decide +kernel, by decide +kernel⟩
abbrev s__law_moved : Stmt := topS 13
theorem sc__law_moved : FnScope ["_law_part", "_law_down", "_law_right", "_law_one"] ["_law_part", "_law_down", "_law_right"] (defScope s__law_moved) := ⟨rfl, rfl, rfl, by decide +kernel, rfl, by decide +kernel, by decide +kernel⟩
abbrev s__law_same : Stmt := topS 14
theorem sc__law_same : FnScope ["_law_found", "_law_due", "_law_k"] ["_law_found", "_law_due"] (defScope s__law_same) := ⟨rfl, rfl, rfl, by decide +kernel, rfl, by decide +kernel, by decide +kernel⟩
abbrev s_law : Stmt := topS 15
theorem sc_law : FnScope ["_law_script", "_law_stack", "_law_cell", "_law_rule", "_law_steps", "_law_k", "_law_found", "_law_step"] ["_law_script"] (defScope s_law) := ⟨rfl, rfl, rfl, by decide +kernel, rfl, by decide +kernel, by decide +kernel⟩
/-- what the top has left -/
structure Top (K : PySem.W.Frag) (mg : Str → Option Value) (w : World) where
  a_inner_rules : Addr
  d_inner_rules : FuncData
  F_inner_rules : Fun K "inner_rules" "inner_rules" s_inner_rules a_inner_rules d_inner_rules
  b_inner_rules : Binds K d_inner_rules ["rule"] []
  m_inner_rules : mg "inner_rules" = some (.ref a_inner_rules)
  a_outer_first : Addr
  d_outer_first : FuncData
  F_outer_first : Fun K "outer_first" "outer_first" s_outer_first a_outer_first d_outer_first
  b_outer_first : Binds K d_outer_first ["rule"] []
  m_outer_first : mg "outer_first" = some (.ref a_outer_first)
  a_moved : Addr
  d_moved : FuncData
  F_moved : Fun K "moved" "moved" s_moved a_moved d_moved
  b_moved : Binds K d_moved ["reference", "down", "right"] []
  m_moved : mg "moved" = some (.ref a_moved)
  a_shifted : Addr
  d_shifted : FuncData
  F_shifted : Fun K "shifted" "shifted" s_shifted a_shifted d_shifted
  b_shifted : Binds K d_shifted ["rule", "down", "right"] []
  m_shifted : mg "shifted" = some (.ref a_shifted)
  a__law_cell_at : Addr
  d__law_cell_at : FuncData
  F__law_cell_at : Fun K "_law_cell_at" "_law_cell_at" s__law_cell_at a__law_cell_at d__law_cell_at
  b__law_cell_at : Binds K d__law_cell_at ["_law_script", "_law_k"] []
  m__law_cell_at : mg "_law_cell_at" = some (.ref a__law_cell_at)
  a__law_ref_by : Addr
  d__law_ref_by : FuncData
  F__law_ref_by : Fun K "_law_ref_by" "_law_ref_by" s__law_ref_by a__law_ref_by d__law_ref_by
  b__law_ref_by : Binds K d__law_ref_by ["_law_cell"] []
  m__law_ref_by : mg "_law_ref_by" = some (.ref a__law_ref_by)
  a__law_leaf_by : Addr
  d__law_leaf_by : FuncData
  F__law_leaf_by : Fun K "_law_leaf_by" "_law_leaf_by" s__law_leaf_by a__law_leaf_by d__law_leaf_by
  b__law_leaf_by : Binds K d__law_leaf_by ["_law_cell"] []
  m__law_leaf_by : mg "_law_leaf_by" = some (.ref a__law_leaf_by)
  a__law_pushed : Addr
  d__law_pushed : FuncData
  F__law_pushed : Fun K "_law_pushed" "_law_pushed" s__law_pushed a__law_pushed d__law_pushed
  b__law_pushed : Binds K d__law_pushed ["_law_stack", "_law_cell"] []
  m__law_pushed : mg "_law_pushed" = some (.ref a__law_pushed)
  a__law_is_ref : Addr
  d__law_is_ref : FuncData
  F__law_is_ref : Fun K "_law_is_ref" "_law_is_ref" s__law_is_ref a__law_is_ref d__law_is_ref
  b__law_is_ref : Binds K d__law_is_ref ["_law_part"] []
  m__law_is_ref : mg "_law_is_ref" = some (.ref a__law_is_ref)
  a__law_moved : Addr
  d__law_moved : FuncData
  F__law_moved : Fun K "_law_moved" "_law_moved" s__law_moved a__law_moved d__law_moved
  b__law_moved : Binds K d__law_moved ["_law_part", "_law_down", "_law_right"] []
  m__law_moved : mg "_law_moved" = some (.ref a__law_moved)
  a__law_same : Addr
  d__law_same : FuncData
  F__law_same : Fun K "_law_same" "_law_same" s__law_same a__law_same d__law_same
  b__law_same : Binds K d__law_same ["_law_found", "_law_due"] []
  m__law_same : mg "_law_same" = some (.ref a__law_same)
  a_law : Addr
  d_law : FuncData
  F_law : Fun K "law" "law" s_law a_law d_law
  b_law : Binds K d_law ["_law_script"] []
  m_law : mg "law" = some (.ref a_law)
  z_bool : mg "bool" = none
  z_int : mg "int" = none
  z_isinstance : mg "isinstance" = none
  z_len : mg "len" = none
  z_list : mg "list" = none
  z_range : mg "range" = none
  z_reversed : mg "reversed" = none
  z_str : mg "str" = none
  z_tuple : mg "tuple" = none
  r_RULES_AT : Addr
  m_RULES_AT : mg "RULES_AT" = some (.ref r_RULES_AT)
  D_RULES_AT_num : DTab K w r_RULES_AT "num" []
  D_RULES_AT_cell : DTab K w r_RULES_AT "cell" []
  D_RULES_AT_add : DTab K w r_RULES_AT "add" [1, 2]
  D_RULES_AT_sub : DTab K w r_RULES_AT "sub" [1, 2]
  D_RULES_AT_mul : DTab K w r_RULES_AT "mul" [1, 2]
  D_RULES_AT_pick : DTab K w r_RULES_AT "pick" [1, 2, 3]
  D_RULES_AT_sum : DTab K w r_RULES_AT "sum" []
  D_RULES_AT_most : DTab K w r_RULES_AT "most" []
  D_RULES_AT_look : DTab K w r_RULES_AT "look" [1, 4]
  r_REFERENCES_AT : Addr
  m_REFERENCES_AT : mg "REFERENCES_AT" = some (.ref r_REFERENCES_AT)
  D_REFERENCES_AT_num : DTab K w r_REFERENCES_AT "num" []
  D_REFERENCES_AT_cell : DTab K w r_REFERENCES_AT "cell" [1]
  D_REFERENCES_AT_add : DTab K w r_REFERENCES_AT "add" []
  D_REFERENCES_AT_sub : DTab K w r_REFERENCES_AT "sub" []
  D_REFERENCES_AT_mul : DTab K w r_REFERENCES_AT "mul" []
  D_REFERENCES_AT_pick : DTab K w r_REFERENCES_AT "pick" []
  D_REFERENCES_AT_sum : DTab K w r_REFERENCES_AT "sum" [1, 2]
  D_REFERENCES_AT_most : DTab K w r_REFERENCES_AT "most" [1, 2]
  D_REFERENCES_AT_look : DTab K w r_REFERENCES_AT "look" [2, 3]
section
variable {P : Program} {w : World} {K : PySem.W.Frag} {mg : Str → Option Value} {base : Heap}
/-- inner_rules -/
def B_inner_rules (T : Top K mg w) {k : Nat} {cdv : Value} {A : Around} {outer : List Env} {s : Shared} {H : Hp} {E : XK} (hr : Room k (A.deeper (envOfC "inner_rules" (defScope s_inner_rules) s.heap.objs.size T.a_inner_rules cdv))) :=
  (show PSs (cxOf CX0 P w K mg base ["rule", "at"] "inner_rules" (defScope s_inner_rules) T.a_inner_rules cdv A outer s H E).nox (defBody s_inner_rules) _ from
    (pss_one (ps_ret (pe_lc (own := [("at", 1)]) (g := gName 1) (tt := tYes) rfl sc_inner_rules.nd (pi_tup (pe_ix ix_kdict (pe_glob (v := V.ref T.r_RULES_AT) (by rfl) T.m_RULES_AT rfl) (pe_ix ix_tup (pv 0) pe_int (fun _ _ => rfl)) (fun _ _ => rfl))) (blkOk_by (own := [("at", 1)]) (N := ["rule", "at"]) (sc := defScope s_inner_rules) (by decide +kernel)) (fun _ _ _ _ _ => (pg_name (i := 1) sc_inner_rules.nd rfl (Or.inl rfl))) (fun _ _ _ _ _ => pts_nil) (fun _ _ _ _ _ => (pe_ix (ix_tupK (K := K) rfl) (pv 0) (pv 1) (fun _ _ => rfl)))))))
/-- outer_first -/
def B_outer_first (T : Top K mg w) {j_inner_rules : Nat} {sp_inner_rules : Sp} {k : Nat} (G_inner_rules : FnOk P w K mg base CX0 j_inner_rules T.a_inner_rules T.d_inner_rules ["rule"] sp_inner_rules) (h_inner_rules : j_inner_rules ≤ k) {cdv : Value} {A : Around} {outer : List Env} {s : Shared} {H : Hp} {E : XK} (hr : Room k (A.deeper (envOfC "outer_first" (defScope s_outer_first) s.heap.objs.size T.a_outer_first cdv))) :=
  (show PSs (cxOf CX0 P w K mg base ["rule", "found", "waiting", "one"] "outer_first" (defScope s_outer_first) T.a_outer_first cdv A outer s H E).nox (defBody s_outer_first) _ from
    (pss_cons (ps_set (i := 1) sc_outer_first.nd rfl (Or.inl rfl) (pe_lst pa_nil))
      (pss_cons (ps_set (i := 2) sc_outer_first.nd rfl (Or.inl rfl) (pe_lst (pa_cons (pv 0) pa_nil)))
      (pss_cons (ps_while PassesOwn.never (pt_tru (K := K) rfl (pv 2) (by intro _; rfl)) (pss_cons (ps_set (i := 3) sc_outer_first.nd rfl (Or.inl rfl) (pe_bm0 PySem.F.plainAttrs_list PySem.F.slot_list_pop PySem.F.type_list_pop mt_pop (pv 2)))
      (pss_cons (ps_expr (pe_bm PySem.F.plainAttrs_list PySem.F.slot_list_append PySem.F.type_list_append mt_append (pv 1) (pa_cons (pv 3) pa_nil)))
      (pss_one (ps_expr (pe_bm PySem.F.plainAttrs_list PySem.F.slot_list_extend PySem.F.type_list_extend mt_extend (pv 2) (pa_cons (pe_call G_inner_rules (hr.mono (by omega)) (by rfl) T.m_inner_rules T.F_inner_rules.kp T.b_inner_rules .nil pass0 (pa_cons (pv 3) pa_nil)) pa_nil)))))))
      (pss_one (ps_ret (pv 1)))))))
/-- moved -/
def B_moved (T : Top K mg w) {k : Nat} {cdv : Value} {A : Around} {outer : List Env} {s : Shared} {H : Hp} {E : XK} (hr : Room k (A.deeper (envOfC "moved" (defScope s_moved) s.heap.objs.size T.a_moved cdv))) :=
  (show PSs (cxOf CX0 P w K mg base ["reference", "down", "right", "row", "column", "row_stays", "column_stays"] "moved" (defScope s_moved) T.a_moved cdv A outer s H E).nox (defBody s_moved) _ from
    (pss_cons (ps_asg (pv 0) (pg_tup rfl (pgs_cons (pg_name (i := 3) sc_moved.nd rfl (Or.inl rfl)) (pgs_cons (pg_name (i := 4) sc_moved.nd rfl (Or.inl rfl)) (pgs_cons (pg_name (i := 5) sc_moved.nd rfl (Or.inl rfl)) (pgs_cons (pg_name (i := 6) sc_moved.nd rfl (Or.inl rfl)) pgs_nil))))))
      (pss_cons (ps_if (pt_not (pt_tru (K := K) rfl (pv 5) (by intro _; rfl))) (pss_one (ps_set (i := 3) sc_moved.nd rfl (Or.inl rfl) (pe_op op_add (pv 3) (pv 1)))) pss_nil)
      (pss_cons (ps_if (pt_not (pt_tru (K := K) rfl (pv 6) (by intro _; rfl))) (pss_one (ps_set (i := 4) sc_moved.nd rfl (Or.inl rfl) (pe_op op_add (pv 4) (pv 2)))) pss_nil)
      (pss_one (ps_ret (pe_tup (pa_cons (pv 3) (pa_cons (pv 4) (pa_cons (pv 5) (pa_cons (pv 6) pa_nil)))))))))))
/-- shifted -/
def B_shifted (T : Top K mg w) {j_moved : Nat} {sp_moved : Sp} {j_outer_first : Nat} {sp_outer_first : Sp} {k : Nat} (G_moved : FnOk P w K mg base CX0 j_moved T.a_moved T.d_moved ["reference", "down", "right"] sp_moved) (h_moved : j_moved ≤ k) (G_outer_first : FnOk P w K mg base CX0 j_outer_first T.a_outer_first T.d_outer_first ["rule"] sp_outer_first) (h_outer_first : j_outer_first ≤ k) {cdv : Value} {A : Around} {outer : List Env} {s : Shared} {H : Hp} {E : XK} (hr : Room k (A.deeper (envOfC "shifted" (defScope s_shifted) s.heap.objs.size T.a_shifted cdv))) :=
  (show PSs (cxOf CX0 P w K mg base ["rule", "down", "right", "done", "one", "parts", "at"] "shifted" (defScope s_shifted) T.a_shifted cdv A outer s H E).nox (defBody s_shifted) _ from
    (pss_cons (ps_set (i := 3) sc_shifted.nd rfl (Or.inl rfl) (pe_lst pa_nil))
      (pss_cons (ps_for PassesOwn.never rfl (RT.pi_revA rfl T.z_reversed (pe_call G_outer_first (hr.mono (by omega)) (by rfl) T.m_outer_first T.F_outer_first.kp T.b_outer_first .nil pass0 (pa_cons (pv 0) pa_nil))) (pg_name (i := 4) sc_shifted.nd rfl (Or.inl rfl)) (pss_cons (ps_set (i := 5) sc_shifted.nd rfl (Or.inl rfl) (pe_callTy call_list_of (by rfl) T.z_list (by decide +kernel) (pa_cons (pv 4) pa_nil)))
      (pss_cons (ps_for PassesOwn.never rfl (pi_tup (pe_ix ix_kdict (pe_glob (v := V.ref T.r_REFERENCES_AT) (by rfl) T.m_REFERENCES_AT rfl) (pe_ix ix_tup (pv 4) pe_int (fun _ _ => rfl)) (fun _ _ => rfl))) (pg_name (i := 6) sc_shifted.nd rfl (Or.inl rfl)) (pss_one (ps_asg (pe_call G_moved (hr.mono (by omega)) (by rfl) T.m_moved T.F_moved.kp T.b_moved .nil pass0 (pa_cons (pe_ix ix_list (pv 5) (pv 6) (fun _ _ => rfl)) (pa_cons (pv 1) (pa_cons (pv 2) pa_nil)))) (pg_sub (pv 5) (pv 6) set_list))))
      (pss_cons (ps_for PassesOwn.never rfl (RT.pi_revA rfl T.z_reversed (pe_ix ix_kdict (pe_glob (v := V.ref T.r_RULES_AT) (by rfl) T.m_RULES_AT rfl) (pe_ix ix_tup (pv 4) pe_int (fun _ _ => rfl)) (fun _ _ => rfl))) (pg_name (i := 6) sc_shifted.nd rfl (Or.inl rfl)) (pss_one (ps_asg (pe_bm0 PySem.F.plainAttrs_list PySem.F.slot_list_pop PySem.F.type_list_pop mt_pop (pv 3)) (pg_sub (pv 5) (pv 6) set_list))))
      (pss_one (ps_expr (pe_bm PySem.F.plainAttrs_list PySem.F.slot_list_append PySem.F.type_list_append mt_append (pv 3) (pa_cons (pe_callTy call_tuple_of (by rfl) T.z_tuple (by decide +kernel) (pa_cons (pv 5) pa_nil)) pa_nil))))))))
      (pss_one (ps_ret (pe_ix ix_list (pv 3) pe_int (fun _ _ => rfl)))))))
/-- _law_cell_at -/
def B__law_cell_at (T : Top K mg w) {k : Nat} {cdv : Value} {A : Around} {outer : List Env} {s : Shared} {H : Hp} {E : XK} (hr : Room k (A.deeper (envOfC "_law_cell_at" (defScope s__law_cell_at) s.heap.objs.size T.a__law_cell_at cdv))) :=
  (show PSs (cxOf CX0 P w K mg base ["_law_script", "_law_k"] "_law_cell_at" (defScope s__law_cell_at) T.a__law_cell_at cdv A outer s H E).nox (defBody s__law_cell_at) _ from
    (pss_cons (ps_if (pt_cmpR op_lt (pv 1) (pe_callB call_len_seq (by rfl) T.z_len (by decide +kernel) (pa_cons (pv 0) pa_nil)) (nomark _)) (pss_one (ps_ret (pe_ix ix_list (pv 0) (pv 1) (fun _ _ => rfl)))) pss_nil)
      (pss_one (ps_ret pe_int))))
/-- _law_ref_by -/
def B__law_ref_by (T : Top K mg w) {k : Nat} {cdv : Value} {A : Around} {outer : List Env} {s : Shared} {H : Hp} {E : XK} (hr : Room k (A.deeper (envOfC "_law_ref_by" (defScope s__law_ref_by) s.heap.objs.size T.a__law_ref_by cdv))) :=
  (show PSs (cxOf CX0 P w K mg base ["_law_cell"] "_law_ref_by" (defScope s__law_ref_by) T.a__law_ref_by cdv A outer s H E).nox (defBody s__law_ref_by) _ from
    (pss_one (ps_ret (pe_tup (pa_cons (pe_op op_mod (pv 0) pe_int) (pa_cons (pe_op op_mod (pe_op op_fdiv (pv 0) pe_int) pe_int) (pa_cons (pe_cmpR op_eq (pe_op op_mod (pe_op op_fdiv (pv 0) pe_int) pe_int) pe_int (nomark _)) (pa_cons (pe_cmpR op_eq (pe_op op_mod (pe_op op_fdiv (pv 0) pe_int) pe_int) pe_int (nomark _)) pa_nil))))))))
/-- _law_leaf_by -/
def B__law_leaf_by (T : Top K mg w) {j__law_ref_by : Nat} {sp__law_ref_by : Sp} {k : Nat} (G__law_ref_by : FnOk P w K mg base CX0 j__law_ref_by T.a__law_ref_by T.d__law_ref_by ["_law_cell"] sp__law_ref_by) (h__law_ref_by : j__law_ref_by ≤ k) {cdv : Value} {A : Around} {outer : List Env} {s : Shared} {H : Hp} {E : XK} (hr : Room k (A.deeper (envOfC "_law_leaf_by" (defScope s__law_leaf_by) s.heap.objs.size T.a__law_leaf_by cdv))) :=
  (show PSs (cxOf CX0 P w K mg base ["_law_cell", "_law_more"] "_law_leaf_by" (defScope s__law_leaf_by) T.a__law_leaf_by cdv A outer s H E).nox (defBody s__law_leaf_by) _ from
    (pss_cons (ps_set (i := 1) sc__law_leaf_by.nd rfl (Or.inl rfl) (pe_op op_fdiv (pv 0) pe_int))
      (pss_cons (ps_if (pt_cmpR op_eq (pe_op op_mod (pv 0) pe_int) pe_int (nomark _)) (pss_one (ps_ret (pe_tup (pa_cons pe_str (pa_cons (pe_op op_sub (pe_op op_mod (pv 1) (pe_op op_pow pe_int pe_int)) (pe_op op_pow pe_int pe_int)) pa_nil))))) pss_nil)
      (pss_cons (ps_if (pt_cmpR op_eq (pe_op op_mod (pv 0) pe_int) pe_int (nomark _)) (pss_one (ps_ret (pe_tup (pa_cons pe_str (pa_cons (pe_call G__law_ref_by (hr.mono (by omega)) (by rfl) T.m__law_ref_by T.F__law_ref_by.kp T.b__law_ref_by .nil pass0 (pa_cons (pv 1) pa_nil)) (pa_cons (pe_call G__law_ref_by (hr.mono (by omega)) (by rfl) T.m__law_ref_by T.F__law_ref_by.kp T.b__law_ref_by .nil pass0 (pa_cons (pe_op op_mod (pe_op op_mul (pv 1) pe_int) pe_int) pa_nil)) pa_nil)))))) pss_nil)
      (pss_cons (ps_if (pt_cmpR op_eq (pe_op op_mod (pv 0) pe_int) pe_int (nomark _)) (pss_one (ps_ret (pe_tup (pa_cons pe_str (pa_cons (pe_call G__law_ref_by (hr.mono (by omega)) (by rfl) T.m__law_ref_by T.F__law_ref_by.kp T.b__law_ref_by .nil pass0 (pa_cons (pv 1) pa_nil)) (pa_cons (pe_call G__law_ref_by (hr.mono (by omega)) (by rfl) T.m__law_ref_by T.F__law_ref_by.kp T.b__law_ref_by .nil pass0 (pa_cons (pe_op op_mod (pe_op op_mul (pv 1) pe_int) pe_int) pa_nil)) pa_nil)))))) pss_nil)
      (pss_one (ps_ret (pe_tup (pa_cons pe_str (pa_cons (pe_call G__law_ref_by (hr.mono (by omega)) (by rfl) T.m__law_ref_by T.F__law_ref_by.kp T.b__law_ref_by .nil pass0 (pa_cons (pv 1) pa_nil)) pa_nil))))))))))
/-- _law_pushed -/
def B__law_pushed (T : Top K mg w) {j__law_leaf_by : Nat} {sp__law_leaf_by : Sp} {j__law_ref_by : Nat} {sp__law_ref_by : Sp} {k : Nat} (G__law_leaf_by : FnOk P w K mg base CX0 j__law_leaf_by T.a__law_leaf_by T.d__law_leaf_by ["_law_cell"] sp__law_leaf_by) (h__law_leaf_by : j__law_leaf_by ≤ k) (G__law_ref_by : FnOk P w K mg base CX0 j__law_ref_by T.a__law_ref_by T.d__law_ref_by ["_law_cell"] sp__law_ref_by) (h__law_ref_by : j__law_ref_by ≤ k) {cdv : Value} {A : Around} {outer : List Env} {s : Shared} {H : Hp} {E : XK} (hr : Room k (A.deeper (envOfC "_law_pushed" (defScope s__law_pushed) s.heap.objs.size T.a__law_pushed cdv))) :=
  (show PSs (cxOf CX0 P w K mg base ["_law_stack", "_law_cell", "_law_more", "_law_other"] "_law_pushed" (defScope s__law_pushed) T.a__law_pushed cdv A outer s H E).nox (defBody s__law_pushed) _ from
    (pss_cons (ps_set (i := 2) sc__law_pushed.nd rfl (Or.inl rfl) (pe_op op_fdiv (pv 1) pe_int))
      (pss_cons (ps_if (PW.pt (pw_and (pt_cmpR op_lt (pe_op op_mod (pv 1) pe_int) pe_int (nomark _)) (pw_and1 (pt_cmpR op_gt (pe_callB call_len_seq (by rfl) T.z_len (by decide +kernel) (pa_cons (pv 0) pa_nil)) pe_int (nomark _))))) (pss_one (ps_ret (pe_op op_catA (pe_slice sl_list (pv 0) po_none (po_some (pe_un un_neg pe_int))) (pe_lst (pa_cons (pe_tup (pa_cons (pe_ix ix_list (pe_lst (pa_cons pe_str (pa_cons pe_str (pa_cons pe_str pa_nil)))) (pe_op op_mod (pv 1) pe_int) (fun _ _ => rfl)) (pa_cons (pe_ix ix_list (pv 0) (pe_un un_neg pe_int) (fun _ _ => rfl)) (pa_cons (pe_ix ix_list (pv 0) (pe_un un_neg pe_int) (fun _ _ => rfl)) pa_nil)))) pa_nil))))) pss_nil)
      (pss_cons (ps_if (PW.pt (pw_and (pt_cmpR op_eq (pe_op op_mod (pv 1) pe_int) pe_int (nomark _)) (pw_and1 (pt_cmpR op_gt (pe_callB call_len_seq (by rfl) T.z_len (by decide +kernel) (pa_cons (pv 0) pa_nil)) pe_int (nomark _))))) (pss_one (ps_ret (pe_op op_catA (pe_slice sl_list (pv 0) po_none (po_some (pe_un un_neg pe_int))) (pe_lst (pa_cons (pe_tup (pa_cons pe_str (pa_cons (pe_ix ix_list (pv 0) (pe_un un_neg pe_int) (fun _ _ => rfl)) (pa_cons (pe_ix ix_list (pv 0) (pe_un un_neg pe_int) (fun _ _ => rfl)) (pa_cons (pe_ix ix_list (pv 0) (pe_un un_neg pe_int) (fun _ _ => rfl)) pa_nil))))) pa_nil))))) pss_nil)
      (pss_cons (ps_if (PW.pt (pw_and (pt_cmpR op_eq (pe_op op_mod (pv 1) pe_int) pe_int (nomark _)) (pw_and1 (pt_cmpR op_gt (pe_callB call_len_seq (by rfl) T.z_len (by decide +kernel) (pa_cons (pv 0) pa_nil)) pe_int (nomark _))))) (pss_cons (ps_set (i := 3) sc__law_pushed.nd rfl (Or.inl rfl) (pe_call G__law_ref_by (hr.mono (by omega)) (by rfl) T.m__law_ref_by T.F__law_ref_by.kp T.b__law_ref_by .nil pass0 (pa_cons (pe_op op_mod (pe_op op_mul (pv 2) pe_int) pe_int) pa_nil)))
      (pss_one (ps_ret (pe_op op_catA (pe_slice sl_list (pv 0) po_none (po_some (pe_un un_neg pe_int))) (pe_lst (pa_cons (pe_tup (pa_cons pe_str (pa_cons (pe_ix ix_list (pv 0) (pe_un un_neg pe_int) (fun _ _ => rfl)) (pa_cons (pe_call G__law_ref_by (hr.mono (by omega)) (by rfl) T.m__law_ref_by T.F__law_ref_by.kp T.b__law_ref_by .nil pass0 (pa_cons (pv 2) pa_nil)) (pa_cons (pv 3) (pa_cons (pe_ix ix_list (pv 0) (pe_un un_neg pe_int) (fun _ _ => rfl)) pa_nil)))))) pa_nil)))))) pss_nil)
      (pss_one (ps_ret (pe_op op_catA (pv 0) (pe_lst (pa_cons (pe_call G__law_leaf_by (hr.mono (by omega)) (by rfl) T.m__law_leaf_by T.F__law_leaf_by.kp T.b__law_leaf_by .nil pass0 (pa_cons (pv 2) pa_nil)) pa_nil))))))))))
/-- _law_is_ref -/
def B__law_is_ref (T : Top K mg w) {k : Nat} {cdv : Value} {A : Around} {outer : List Env} {s : Shared} {H : Hp} {E : XK} (hr : Room k (A.deeper (envOfC "_law_is_ref" (defScope s__law_is_ref) s.heap.objs.size T.a__law_is_ref cdv))) :=
  (show PSs (cxOf CX0 P w K mg base ["_law_part"] "_law_is_ref" (defScope s__law_is_ref) T.a__law_is_ref cdv A outer s H E).nox (defBody s__law_is_ref) _ from
    (pss_one (ps_ret (pe_and (pe_callB call_isi (by rfl) T.z_isinstance (by decide +kernel) (pa_cons (pv 0) (pa_cons (pe_bltn (v := V.ty "tuple") (u := Value.type "tuple") (by rfl) T.z_tuple (by decide +kernel) rfl) pa_nil))) (pe_and (pe_cmpR op_eq (pe_callB call_len_seq (by rfl) T.z_len (by decide +kernel) (pa_cons (pv 0) pa_nil)) pe_int (nomark _)) (pe_one (pe_callB call_isi (by rfl) T.z_isinstance (by decide +kernel) (pa_cons (pe_ix ix_tup (pv 0) pe_int (fun _ _ => rfl)) (pa_cons (pe_bltn (v := V.ty "bool") (u := Value.type "bool") (by rfl) T.z_bool (by decide +kernel) rfl) pa_nil)))))))))
/-- _law_moved -/
def B__law_moved (T : Top K mg w) {j__law_is_ref : Nat} {sp__law_is_ref : Sp} {j__law_moved : Nat} {sp__law_moved : Sp} {k : Nat} (G__law_is_ref : FnOk P w K mg base CX0 j__law_is_ref T.a__law_is_ref T.d__law_is_ref ["_law_part"] sp__law_is_ref) (h__law_is_ref : j__law_is_ref ≤ k) (G__law_moved : FnOk P w K mg base CX0 j__law_moved T.a__law_moved T.d__law_moved ["_law_part", "_law_down", "_law_right"] sp__law_moved) (h__law_moved : j__law_moved ≤ k) {cdv : Value} {A : Around} {outer : List Env} {s : Shared} {H : Hp} {E : XK} (hr : Room k (A.deeper (envOfC "_law_moved" (defScope s__law_moved) s.heap.objs.size T.a__law_moved cdv))) :=
  (show PSs (cxOf CX0 P w K mg base ["_law_part", "_law_down", "_law_right", "_law_one"] "_law_moved" (defScope s__law_moved) T.a__law_moved cdv A outer s H E).nox (defBody s__law_moved) _ from
    (pss_cons (ps_if (pt_val (pe_call G__law_is_ref (hr.mono (by omega)) (by rfl) T.m__law_is_ref T.F__law_is_ref.kp T.b__law_is_ref .nil pass0 (pa_cons (pv 0) pa_nil))) (pss_one (ps_ret (pe_tup (pa_cons (pe_op op_add (pe_ix ix_tup (pv 0) pe_int (fun _ _ => rfl)) (pe_op op_mul (pv 1) (pe_callTy call_int1 (by rfl) T.z_int (by decide +kernel) (pa_cons (pe_not (pe_ix ix_tup (pv 0) pe_int (fun _ _ => rfl))) pa_nil)))) (pa_cons (pe_op op_add (pe_ix ix_tup (pv 0) pe_int (fun _ _ => rfl)) (pe_op op_mul (pv 2) (pe_callTy call_int1 (by rfl) T.z_int (by decide +kernel) (pa_cons (pe_not (pe_ix ix_tup (pv 0) pe_int (fun _ _ => rfl))) pa_nil)))) (pa_cons (pe_ix ix_tup (pv 0) pe_int (fun _ _ => rfl)) (pa_cons (pe_ix ix_tup (pv 0) pe_int (fun _ _ => rfl)) pa_nil))))))) pss_nil)
      (pss_cons (ps_if (pt_val (pe_callB call_isi (by rfl) T.z_isinstance (by decide +kernel) (pa_cons (pv 0) (pa_cons (pe_bltn (v := V.ty "tuple") (u := Value.type "tuple") (by rfl) T.z_tuple (by decide +kernel) rfl) pa_nil)))) (pss_one (ps_ret (pe_callTy call_tuple_of (by rfl) T.z_tuple (by decide +kernel) (pa_cons (pe_lc (own := [("_law_one", 3)]) (g := gName 3) (tt := tYes) rfl sc__law_moved.nd (pi_tup (pv 0)) (blkOk_by (own := [("_law_one", 3)]) (N := ["_law_part", "_law_down", "_law_right", "_law_one"]) (sc := defScope s__law_moved) (by decide +kernel)) (fun _ _ _ _ _ => (pg_name (i := 3) sc__law_moved.nd rfl (Or.inl rfl))) (fun _ _ _ _ _ => pts_nil) (fun _ _ _ _ _ => (pe_call G__law_moved (hr.mono (by omega)) (by rfl) T.m__law_moved T.F__law_moved.kp T.b__law_moved .nil pass0 (pa_cons (pv 3) (pa_cons (pv 1) (pa_cons (pv 2) pa_nil)))))) pa_nil)))) pss_nil)
      (pss_one (ps_ret (pv 0))))))
/-- _law_same -/
def B__law_same (T : Top K mg w) {j__law_same : Nat} {sp__law_same : Sp} {k : Nat} (G__law_same : FnOk P w K mg base CX0 j__law_same T.a__law_same T.d__law_same ["_law_found", "_law_due"] sp__law_same) (h__law_same : j__law_same ≤ k) {cdv : Value} {A : Around} {outer : List Env} {s : Shared} {H : Hp} {E : XK} (hr : Room k (A.deeper (envOfC "_law_same" (defScope s__law_same) s.heap.objs.size T.a__law_same cdv))) :=
  (show PSs (cxOf CX0 P w K mg base ["_law_found", "_law_due", "_law_k"] "_law_same" (defScope s__law_same) T.a__law_same cdv A outer s H E).nox (defBody s__law_same) _ from
    (pss_cons (ps_if (pt_val (pe_callB call_isi (by rfl) T.z_isinstance (by decide +kernel) (pa_cons (pv 1) (pa_cons (pe_bltn (v := V.ty "tuple") (u := Value.type "tuple") (by rfl) T.z_tuple (by decide +kernel) rfl) pa_nil)))) (pss_cons (ps_if (PW.pt (pw_or (pt_not (pt_val (pe_callB call_isi (by rfl) T.z_isinstance (by decide +kernel) (pa_cons (pv 0) (pa_cons (pe_bltn (v := V.ty "tuple") (u := Value.type "tuple") (by rfl) T.z_tuple (by decide +kernel) rfl) pa_nil))))) (pw_or1 (pt_cmpR op_ne (pe_callB call_len_seq (by rfl) T.z_len (by decide +kernel) (pa_cons (pv 0) pa_nil)) (pe_callB call_len_seq (by rfl) T.z_len (by decide +kernel) (pa_cons (pv 1) pa_nil)) (nomark _))))) (pss_one (ps_ret pe_bl)) pss_nil)
      (pss_cons (ps_for PassesOwn.never rfl (pi_range1 rfl T.z_range (pa_cons (pe_callB call_len_seq (by rfl) T.z_len (by decide +kernel) (pa_cons (pv 1) pa_nil)) pa_nil)) (pg_name (i := 2) sc__law_same.nd rfl (Or.inl rfl)) (pss_one (ps_if (pt_not (pt_val (pe_call G__law_same (hr.mono (by omega)) (by rfl) T.m__law_same T.F__law_same.kp T.b__law_same .nil pass0 (pa_cons (pe_ix ix_tup (pv 0) (pv 2) (fun _ _ => rfl)) (pa_cons (pe_ix ix_tup (pv 1) (pv 2) (fun _ _ => rfl)) pa_nil))))) (pss_one (ps_ret pe_bl)) pss_nil)))
      (pss_one (ps_ret pe_bl)))) pss_nil)
      (pss_cons (ps_if (PW.pt (pw_or (pt_val (pe_callB call_isi (by rfl) T.z_isinstance (by decide +kernel) (pa_cons (pv 1) (pa_cons (pe_bltn (v := V.ty "bool") (u := Value.type "bool") (by rfl) T.z_bool (by decide +kernel) rfl) pa_nil)))) (pw_or1 (pt_val (pe_callB call_isi (by rfl) T.z_isinstance (by decide +kernel) (pa_cons (pv 0) (pa_cons (pe_bltn (v := V.ty "bool") (u := Value.type "bool") (by rfl) T.z_bool (by decide +kernel) rfl) pa_nil))))))) (pss_one (ps_ret (pe_and (pe_callB call_isi (by rfl) T.z_isinstance (by decide +kernel) (pa_cons (pv 1) (pa_cons (pe_bltn (v := V.ty "bool") (u := Value.type "bool") (by rfl) T.z_bool (by decide +kernel) rfl) pa_nil))) (pe_and (pe_callB call_isi (by rfl) T.z_isinstance (by decide +kernel) (pa_cons (pv 0) (pa_cons (pe_bltn (v := V.ty "bool") (u := Value.type "bool") (by rfl) T.z_bool (by decide +kernel) rfl) pa_nil))) (pe_one (pe_cmpR op_eq (pv 0) (pv 1) (nomark _))))))) pss_nil)
      (pss_cons (ps_if (pt_val (pe_callB call_isi (by rfl) T.z_isinstance (by decide +kernel) (pa_cons (pv 1) (pa_cons (pe_bltn (v := V.ty "int") (u := Value.type "int") (by rfl) T.z_int (by decide +kernel) rfl) pa_nil)))) (pss_one (ps_ret (pe_and (pe_callB call_isi (by rfl) T.z_isinstance (by decide +kernel) (pa_cons (pv 0) (pa_cons (pe_bltn (v := V.ty "int") (u := Value.type "int") (by rfl) T.z_int (by decide +kernel) rfl) pa_nil))) (pe_one (pe_cmpR op_eq (pv 0) (pv 1) (nomark _)))))) pss_nil)
      (pss_one (ps_ret (pe_and (pe_callB call_isi (by rfl) T.z_isinstance (by decide +kernel) (pa_cons (pv 0) (pa_cons (pe_bltn (v := V.ty "str") (u := Value.type "str") (by rfl) T.z_str (by decide +kernel) rfl) pa_nil))) (pe_one (pe_cmpR op_eq (pv 0) (pv 1) (nomark _))))))))))
/-- law -/
def B_law (T : Top K mg w) {j__law_cell_at : Nat} {sp__law_cell_at : Sp} {j__law_moved : Nat} {sp__law_moved : Sp} {j__law_pushed : Nat} {sp__law_pushed : Sp} {j__law_same : Nat} {sp__law_same : Sp} {j_shifted : Nat} {sp_shifted : Sp} {k : Nat} (G__law_cell_at : FnOk P w K mg base CX0 j__law_cell_at T.a__law_cell_at T.d__law_cell_at ["_law_script", "_law_k"] sp__law_cell_at) (h__law_cell_at : j__law_cell_at ≤ k) (G__law_moved : FnOk P w K mg base CX0 j__law_moved T.a__law_moved T.d__law_moved ["_law_part", "_law_down", "_law_right"] sp__law_moved) (h__law_moved : j__law_moved ≤ k) (G__law_pushed : FnOk P w K mg base CX0 j__law_pushed T.a__law_pushed T.d__law_pushed ["_law_stack", "_law_cell"] sp__law_pushed) (h__law_pushed : j__law_pushed ≤ k) (G__law_same : FnOk P w K mg base CX0 j__law_same T.a__law_same T.d__law_same ["_law_found", "_law_due"] sp__law_same) (h__law_same : j__law_same ≤ k) (G_shifted : FnOk P w K mg base CX0 j_shifted T.a_shifted T.d_shifted ["rule", "down", "right"] sp_shifted) (h_shifted : j_shifted ≤ k) {cdv : Value} {A : Around} {outer : List Env} {s : Shared} {H : Hp} {E : XK} (hr : Room k (A.deeper (envOfC "law" (defScope s_law) s.heap.objs.size T.a_law cdv))) :=
  (show PSs (cxOf CX0 P w K mg base ["_law_script", "_law_stack", "_law_cell", "_law_rule", "_law_steps", "_law_k", "_law_found", "_law_step"] "law" (defScope s_law) T.a_law cdv A outer s H E).nox (defBody s_law) _ from
    (pss_cons (ps_set (i := 1) sc_law.nd rfl (Or.inl rfl) (pe_lst (pa_cons (pe_tup (pa_cons pe_str (pa_cons pe_int pa_nil))) pa_nil)))
      (pss_cons (ps_for PassesOwn.never rfl (pi_list (pe_slice sl_list (pv 0) (po_some pe_int) (po_some pe_int))) (pg_name (i := 2) sc_law.nd rfl (Or.inl rfl)) (pss_one (ps_set (i := 1) sc_law.nd rfl (Or.inl rfl) (pe_call G__law_pushed (hr.mono (by omega)) (by rfl) T.m__law_pushed T.F__law_pushed.kp T.b__law_pushed .nil pass0 (pa_cons (pv 1) (pa_cons (pv 2) pa_nil))))))
      (pss_cons (ps_set (i := 3) sc_law.nd rfl (Or.inl rfl) (pe_ix ix_list (pv 1) (pe_un un_neg pe_int) (fun _ _ => rfl)))
      (pss_cons (ps_set (i := 4) sc_law.nd rfl (Or.inl rfl) (pe_lst pa_nil))
      (pss_cons (ps_for PassesOwn.never rfl (pi_range1 rfl T.z_range (pa_cons pe_int pa_nil)) (pg_name (i := 5) sc_law.nd rfl (Or.inl rfl)) (pss_cons (ps_set (i := 7) sc_law.nd rfl (Or.inl rfl) (pe_op op_sub (pe_op op_mod (pe_call G__law_cell_at (hr.mono (by omega)) (by rfl) T.m__law_cell_at T.F__law_cell_at.kp T.b__law_cell_at .nil pass0 (pa_cons (pv 0) (pa_cons (pv 5) pa_nil))) pe_int) pe_int))
      (pss_cons (ps_if (pt_cmpR op_eq (pe_op op_mod (pe_op op_fdiv (pe_call G__law_cell_at (hr.mono (by omega)) (by rfl) T.m__law_cell_at T.F__law_cell_at.kp T.b__law_cell_at .nil pass0 (pa_cons (pv 0) (pa_cons pe_int pa_nil))) pe_int) pe_int) pe_int (nomark _)) (pss_one (ps_set (i := 7) sc_law.nd rfl (Or.inl rfl) (pe_op op_add (pe_op op_mul (pv 7) (pe_op op_pow pe_int pe_int)) (pe_op op_mod (pe_op op_fdiv (pe_call G__law_cell_at (hr.mono (by omega)) (by rfl) T.m__law_cell_at T.F__law_cell_at.kp T.b__law_cell_at .nil pass0 (pa_cons (pv 0) (pa_cons (pv 5) pa_nil))) pe_int) pe_int)))) pss_nil)
      (pss_one (ps_expr (pe_bm PySem.F.plainAttrs_list PySem.F.slot_list_append PySem.F.type_list_append mt_append (pv 4) (pa_cons (pv 7) pa_nil)))))))
      (pss_cons (ps_set (i := 6) sc_law.nd rfl (Or.inl rfl) (pe_call G_shifted (hr.mono (by omega)) (by rfl) T.m_shifted T.F_shifted.kp T.b_shifted .nil pass0 (pa_cons (pv 3) (pa_cons (pe_ix ix_list (pv 4) pe_int (fun _ _ => rfl)) (pa_cons (pe_ix ix_list (pv 4) pe_int (fun _ _ => rfl)) pa_nil)))))
      (pss_cons (ps_if (pt_not (pt_val (pe_call G__law_same (hr.mono (by omega)) (by rfl) T.m__law_same T.F__law_same.kp T.b__law_same .nil pass0 (pa_cons (pv 6) (pa_cons (pe_call G__law_moved (hr.mono (by omega)) (by rfl) T.m__law_moved T.F__law_moved.kp T.b__law_moved .nil pass0 (pa_cons (pv 3) (pa_cons (pe_ix ix_list (pv 4) pe_int (fun _ _ => rfl)) (pa_cons (pe_ix ix_list (pv 4) pe_int (fun _ _ => rfl)) pa_nil)))) pa_nil))))) (pss_one (ps_ret pe_bl)) pss_nil)
      (pss_one (ps_ret (pe_call G__law_same (hr.mono (by omega)) (by rfl) T.m__law_same T.F__law_same.kp T.b__law_same .nil pass0 (pa_cons (pe_call G_shifted (hr.mono (by omega)) (by rfl) T.m_shifted T.F_shifted.kp T.b_shifted .nil pass0 (pa_cons (pv 6) (pa_cons (pe_op op_sub pe_int (pe_ix ix_list (pv 4) pe_int (fun _ _ => rfl))) (pa_cons (pe_op op_sub pe_int (pe_ix ix_list (pv 4) pe_int (fun _ _ => rfl))) pa_nil)))) (pa_cons (pv 3) pa_nil)))))))))))))
end
end K03

namespace K03
open PySem PySem.Spec L2 Pu Pr
open Evl (Ex rLenS rMax2 rListS)
open PyProof.Rows (envOfC)
/-! own words of the walk -/
local macro_rules | `(tactic| walk_at "side") => `(tactic| first
  | rfl | exact at_m1 | exact at_m1' | exact at_m1'' | exact at_m2 | exact at_m2' | exact at_m3 | exact at0 | exact at1 | exact at2 | exact at3 | exact at4 | assumption | decide | omega | exact ⟨by decide, by decide⟩ | exact ⟨by omega, by omega⟩ | exact Or.inr ⟨by omega, by omega⟩ | exact Or.inl ⟨by omega, by omega⟩ | exact Or.inr ⟨by decide, by decide⟩)
local macro_rules | `(tactic| walk_at "ec") => `(tactic| fail)
local macro_rules | `(tactic| walk_at "fc") => `(tactic| fail)
local macro_rules | `(tactic| walk_at "tab") => `(tactic| assumption)
local macro_rules | `(tactic| walk_at "shape") => `(tactic| first | rfl | assumption)
local macro_rules | `(tactic| walk_at "e") => `(tactic| first
  | exact ev_int | exact ev_str | exact ev_bl | exact ev_non | exact ev_var rfl
  | (apply ev_ixO; (rfl); (walk_at "x"); (walk_at "side"))
  | (apply ev_ixT; (walk_at "e"); (walk_at "x"); (walk_at "side"))
  | (apply ev_ixL; (walk_at "e"); (walk_at "x"); (walk_at "side"))
  | (apply ev_I0; (walk_at "x"); (walk_at "x"); (rfl))
  | (apply ev_I0b; (walk_at "x"); (walk_at "x"); (rfl))
  | (apply ev_I; (walk_at "x"); (walk_at "x"); (rfl); (walk_at "side"))
  | (apply ev_neg; (walk_at "x"); (rfl))
  | (apply ev_eqI; (walk_at "x"); (walk_at "x"))
  | (apply ev_eqS; (walk_at "x"); (walk_at "x"))
  | (apply ev_eqB; (walk_at "x"); (walk_at "x"))
  | (apply ev_neI; (walk_at "x"); (walk_at "x"))
  | (apply ev_neS; (walk_at "x"); (walk_at "x"))
  | (apply ev_eqD; (walk_at "x"); (walk_at "x"); (walk_at "shape"); (walk_at "shape"))
  | (apply ev_neD; (walk_at "x"); (walk_at "x"); (walk_at "shape"); (walk_at "shape"))
  | (apply ev_andV; (walk_at "x"); (intro _; walk_at "x"))
  | (apply ev_orV; (walk_at "x"); (intro _; walk_at "x"))
  | (apply ev_notV; (walk_at "x"))
  | (apply ev_tup; (walk_at "s"); (exact Nat.le_of_ble_eq_true rfl))
  | (apply ev_slTb; (walk_at "e"); (walk_at "o"); (walk_at "o"); (rfl))
  | (apply ev_lenL; (walk_at "x"))
  | (apply ev_lenT; (walk_at "x"))
  | (apply ev_min2; (walk_at "x"); (walk_at "x"))
  | (apply ev_max2; (walk_at "x"); (walk_at "x"))
  | (apply ev_isi; (walk_at "x"); (first | exact kb_int_int | exact kb_int_bool | exact kb_int_str | exact kb_int_list | exact kb_int_tuple | exact kb_bool_int | exact kb_bool_bool | exact kb_bool_str | exact kb_bool_list | exact kb_bool_tuple | exact kb_str_int | exact kb_str_bool | exact kb_str_str | exact kb_str_list | exact kb_str_tuple | exact kb_list_int | exact kb_list_bool | exact kb_list_str | exact kb_list_list | exact kb_list_tuple | exact kb_tuple_int | exact kb_tuple_bool | exact kb_tuple_str | exact kb_tuple_list | exact kb_tuple_tuple | exact kb_NoneType_int | exact kb_NoneType_bool | exact kb_NoneType_str | exact kb_NoneType_list | exact kb_NoneType_tuple))
  | (apply ev_intB; (walk_at "x"))
  | (apply ev_ixD; (walk_at "x"); (walk_at "tab"))
  | (apply ev_isN; (walk_at "x"))
  | (apply ev_tupO; (rfl))
  | (apply ev_tupL; (walk_at "e"))
  | walk_at "ec"
  | (apply ev_fresh; (walk_at "f")))
local macro_rules | `(tactic| walk_at "f") => `(tactic| first
  | (apply ef_lst; (walk_at "s"); (exact Nat.le_of_ble_eq_true rfl))
  | (apply ef_catA; (walk_at "e"); (walk_at "e"); (walk_at "side"))
  | (apply ef_slO; (rfl); (walk_at "o"); (walk_at "o"))
  | (apply ef_slL; (walk_at "e"); (walk_at "o"); (walk_at "o"))
  | (apply ef_listT; (walk_at "e"))
  | (apply ef_listL; (walk_at "e"))
  | walk_at "fc")
local macro_rules | `(tactic| walk_at "x") => `(tactic| first
  | exact ev_varO rfl
  | (apply ev_weak; (walk_at "e")))
local macro_rules | `(tactic| walk_at "o") => `(tactic| first
  | exact eo_none
  | (apply eo_some; (walk_at "x")))
local macro_rules | `(tactic| walk_at "a") => `(tactic| first
  | exact ea_nil
  | (apply ea_cons; (walk_at "x"); (walk_at "a")))
local macro_rules | `(tactic| walk_at "s") => `(tactic| first
  | exact es_nil
  | (apply es_cons; (walk_at "e"); (walk_at "s")))
local macro_rules | `(tactic| walk_at "b") => `(tactic| first
  | exact eb_yes
  | (apply eb_test; (walk_at "x"))
  | (apply eb_B; (walk_at "x"))
  | (apply eb_truB; (walk_at "x"))
  | (apply eb_truL; (walk_at "x"))
  | (apply eb_truT; (walk_at "x"))
  | (apply eb_truI; (walk_at "x"))
  | (apply eb_not; (walk_at "b"))
  | (apply eb_and; (walk_at "b"); (intro _; walk_at "b"))
  | (apply eb_or; (walk_at "b"); (intro _; walk_at "b")))
section
variable {P : Program} {w : World} {K : PySem.W.Frag} {mg : Str → Option Value} {base : Heap}
abbrev sp_inner_rules (K : PySem.W.Frag) : Sp := spL (α := Rl) K (fun r => [r.d]) (fun _ => True) (fun r => r.inner.map Rl.d)
theorem ok_inner (T : Top K mg w) : FnOk P w K mg base CX0 1 T.a_inner_rules T.d_inner_rules ["rule"] (sp_inner_rules K) := by
  refine fn_lst T.F_inner_rules sc_inner_rules (fun _ => rfl) fun cdv A outer s H E hr => ⟨_, B_inner_rules T hr, fun r hp => ?_⟩
  show Ws K _ [.dat r.d, .no] _
  have z := Nat.le_of_ble_eq_true (n := 3) (m := 50000) rfl
  cases r with
  | num n =>
    refine w_retF (ev_isF (ef_lcA (gx []) (ei_tup (ev_ixD ?_ T.D_RULES_AT_num)) (Nat.le_of_ble_eq_true rfl) (wipe_set (by decide)) ?_) rfl) rfl
    · walk_at "x"
    · exact fun d hd => nomatch hd
  | cell p =>
    refine w_retF (ev_isF (ef_lcA (gx []) (ei_tup (ev_ixD ?_ T.D_RULES_AT_cell)) (Nat.le_of_ble_eq_true rfl) (wipe_set (by decide)) ?_) rfl) rfl
    · walk_at "x"
    · exact fun d hd => nomatch hd
  | sum p q =>
    refine w_retF (ev_isF (ef_lcA (gx []) (ei_tup (ev_ixD ?_ T.D_RULES_AT_sum)) (Nat.le_of_ble_eq_true rfl) (wipe_set (by decide)) ?_) rfl) rfl
    · walk_at "x"
    · exact fun d hd => nomatch hd
  | most p q =>
    refine w_retF (ev_isF (ef_lcA (gx []) (ei_tup (ev_ixD ?_ T.D_RULES_AT_most)) (Nat.le_of_ble_eq_true rfl) (wipe_set (by decide)) ?_) rfl) rfl
    · walk_at "x"
    · exact fun d hd => nomatch hd
  | add a b =>
    refine w_retF (ev_isF (ef_lcA (gx [.str "add", a.d, b.d]) (ei_tup (ev_ixD ?_ T.D_RULES_AT_add)) (Nat.le_of_ble_eq_true rfl) (wipe_set (by decide)) ?_) rfl) rfl
    · walk_at "x"
    · refine List.forall_mem_cons.mpr ⟨?_, List.forall_mem_cons.mpr ⟨?_, fun d hd => nomatch hd⟩⟩ <;> walk_at "e"
  | sub a b =>
    refine w_retF (ev_isF (ef_lcA (gx [.str "sub", a.d, b.d]) (ei_tup (ev_ixD ?_ T.D_RULES_AT_sub)) (Nat.le_of_ble_eq_true rfl) (wipe_set (by decide)) ?_) rfl) rfl
    · walk_at "x"
    · refine List.forall_mem_cons.mpr ⟨?_, List.forall_mem_cons.mpr ⟨?_, fun d hd => nomatch hd⟩⟩ <;> walk_at "e"
  | mul a b =>
    refine w_retF (ev_isF (ef_lcA (gx [.str "mul", a.d, b.d]) (ei_tup (ev_ixD ?_ T.D_RULES_AT_mul)) (Nat.le_of_ble_eq_true rfl) (wipe_set (by decide)) ?_) rfl) rfl
    · walk_at "x"
    · refine List.forall_mem_cons.mpr ⟨?_, List.forall_mem_cons.mpr ⟨?_, fun d hd => nomatch hd⟩⟩ <;> walk_at "e"
  | pick a b c =>
    refine w_retF (ev_isF (ef_lcA (gx [.str "pick", a.d, b.d, c.d]) (ei_tup (ev_ixD ?_ T.D_RULES_AT_pick)) (Nat.le_of_ble_eq_true rfl) (wipe_set (by decide)) ?_) rfl) rfl
    · walk_at "x"
    · refine List.forall_mem_cons.mpr ⟨?_, List.forall_mem_cons.mpr ⟨?_, List.forall_mem_cons.mpr ⟨?_, fun d hd => nomatch hd⟩⟩⟩ <;> walk_at "e"
  | look a p q b =>
    refine w_retF (ev_isF (ef_lcA (gx [.str "look", a.d, p.d, q.d, b.d]) (ei_tup (ev_ixD ?_ T.D_RULES_AT_look)) (Nat.le_of_ble_eq_true rfl) (wipe_set (by decide)) ?_) rfl) rfl
    · walk_at "x"
    · refine List.forall_mem_cons.mpr ⟨?_, List.forall_mem_cons.mpr ⟨?_, fun d hd => nomatch hd⟩⟩ <;> walk_at "e"
theorem fc_inner {es : Es} {ta : TE} {r : Rl} {E : XK} (h : EvX K ta es r.d) : EvF K (tCall (sp_inner_rules K) [] E (tCons ta tNil)) es (r.inner.map Rl.d) :=
  ef_call (args := fun r : Rl => [r.d]) r (ea_cons h ea_nil) True.intro (Rl.imm_all _)
abbrev sp_outer_first (K : PySem.W.Frag) : Sp := spL (α := Rl) K (fun r => [r.d]) (fun r => r.size ≤ 1000) (fun r => r.outer.map Rl.d)
theorem ok_outer (T : Top K mg w) : FnOk P w K mg base CX0 2 T.a_outer_first T.d_outer_first ["rule"] (sp_outer_first K) := by
  refine fn_lst T.F_outer_first sc_outer_first (fun _ => rfl) fun cdv A outer s H E hr => ⟨_, B_outer_first T (ok_inner T) (by decide) hr, fun r hp => ?_⟩
  show Ws K _ [.dat r.d, .no, .no, .no] _
  apply w_seq
  apply w_asgF
  · walk_at "f"
  apply w_seq
  apply w_asgF
  · walk_at "f"
  apply w_seq
  refine w_while (fun m e => ∃ F W x, F ++ W.reverse.flatMap Rl.outer = r.outer ∧ m = (W.map Rl.size).sum ∧ e = [.dat r.d, .own (F.map Rl.d), .own (W.map Rl.d), x]) _ ⟨[], [r], _, by simp, rfl, rfl⟩ ?_
  rintro m e ⟨F, W, x, hF, rfl, rfl⟩
  have hlen : F.length + (W.map Rl.size).sum ≤ 1000 := by
    have h := congrArg List.length hF
    rw [List.length_append, Rl.flat_len, Rl.outer_len] at h
    have : r.size ≤ 1000 := hp
    omega
  refine ⟨_, eb_truL (ev_varO rfl), fun hb => ?_, fun hb => ?_⟩
  · rcases List.eq_nil_or_concat W with rfl | ⟨W', y, rfl⟩
    · cases hb
    rw [List.concat_eq_append] at hF hlen ⊢
    apply w_seq
    refine w_pop (i := 2) (j := 3) (ds := W'.map Rl.d) (d := y.d) (by decide) (by rw [List.map_append]; rfl) ?_
    apply w_seq
    refine w_append (i := 1) rfl (ev_var rfl) (by rw [List.length_map]; omega) ?_
    have e0 := Rl.size_inner y
    rw [List.map_append, List.sum_append] at hlen
    have hlen : F.length + ((W'.map Rl.size).sum + y.size) ≤ 1000 := by simpa using hlen
    have l1 := Rl.len_le W'
    have l2 := Rl.len_le y.inner
    refine w_extend (i := 2) rfl (fc_inner (ev_weak (ev_var rfl))) (by rw [List.length_map, List.length_map]; omega) ?_
    refine ⟨((W' ++ y.inner).map Rl.size).sum, ?_, F ++ [y], W' ++ y.inner, .dat y.d, ?_, rfl, ?_⟩
    · rw [List.map_append, List.sum_append, List.map_append, List.sum_append]
      simp only [List.map_cons, List.map_nil, List.sum_cons, List.sum_nil]
      omega
    · rw [← hF, List.reverse_append, List.reverse_append, List.flatMap_append, List.flatMap_append, List.append_assoc]
      simp only [List.reverse_cons, List.reverse_nil, List.nil_append, List.flatMap_cons, List.flatMap_nil, List.append_nil]
      rw [Rl.outer_eq y]
      rfl
    · have m1 : (F ++ [y]).map Rl.d = F.map Rl.d ++ [y.d] := List.map_append
      have m2 : (W' ++ y.inner).map Rl.d = W'.map Rl.d ++ y.inner.map Rl.d := List.map_append
      rw [m1, m2]
      rfl
  · have hW : W = [] := by
      cases W with
      | nil => rfl
      | cons a b => cases hb
    subst hW
    have hF' : F = r.outer := by simpa using hF
    subst hF'
    exact w_retO rfl rfl
theorem fc_outer {es : Es} {ta : TE} {r : Rl} {E : XK} (h : EvX K ta es r.d) (hz : r.size ≤ 1000) : EvF K (tCall (sp_outer_first K) [] E (tCons ta tNil)) es (r.outer.map Rl.d) :=
  ef_call (args := fun r : Rl => [r.d]) r (ea_cons h ea_nil) hz (Rl.imm_all _)
def mv (x : Rf) (dn rt : Int) : Rf := ⟨if x.rs then x.r else x.r + dn, if x.cs then x.c else x.c + rt, x.rs, x.cs⟩
abbrev sp_moved (K : PySem.W.Frag) : Sp := spF (α := Rf × Int × Int) K (fun a => [a.1.d, .int a.2.1, .int a.2.2]) (fun _ => True) (fun a => (mv a.1 a.2.1 a.2.2).d)
theorem ok_moved (T : Top K mg w) : FnOk P w K mg base CX0 1 T.a_moved T.d_moved ["reference", "down", "right"] (sp_moved K) := by
  refine fn_val T.F_moved sc_moved (fun _ => rfl) fun cdv A outer s H E hr => ⟨_, B_moved T hr, fun a hp => ?_⟩
  obtain ⟨⟨r, c, rs, cs⟩, dn, rt⟩ := a
  show Ws K _ [.dat (.tuple [.int r, .int c, .bool rs, .bool cs]), .dat (.int dn), .dat (.int rt), .no, .no, .no, .no] _
  apply w_seq
  apply w_asgT (ev_var rfl) (tg_tup (tga_cons tg_name (tga_cons tg_name (tga_cons tg_name (tga_cons tg_name tga_nil)))) rfl)
  apply w_seq
  apply w_if
  · walk_at "b"
  · intro hrs
    apply w_asg
    · walk_at "e"
    apply w_seq
    apply w_if
    · walk_at "b"
    · intro hcs
      apply w_asg
      · walk_at "e"
      apply w_ret
      · walk_at "x"
      · left
        cases rs <;> cases cs <;> first | rfl | exact absurd hrs (by decide) | exact absurd hcs (by decide)
    · intro hcs
      apply w_next
      apply w_ret
      · walk_at "x"
      · left
        cases rs <;> cases cs <;> first | rfl | exact absurd hrs (by decide) | exact absurd hcs (by decide)
  · intro hrs
    apply w_next
    apply w_seq
    apply w_if
    · walk_at "b"
    · intro hcs
      apply w_asg
      · walk_at "e"
      apply w_ret
      · walk_at "x"
      · left
        cases rs <;> cases cs <;> first | rfl | exact absurd hrs (by decide) | exact absurd hcs (by decide)
    · intro hcs
      apply w_next
      apply w_ret
      · walk_at "x"
      · left
        cases rs <;> cases cs <;> first | rfl | exact absurd hrs (by decide) | exact absurd hcs (by decide)
theorem ec_moved {es : Es} {ta tb tc : TE} {x : Rf} {dn rt : Int} {E : XK} (h : EvX K ta es x.d) (h2 : EvX K tb es (.int dn)) (h3 : EvX K tc es (.int rt)) : EvE K (tCall (sp_moved K) [] E (tCons ta (tCons tb (tCons tc tNil)))) es (mv x dn rt).d :=
  ev_call (args := fun a : Rf × Int × Int => [a.1.d, PyData.int a.2.1, .int a.2.2]) (x, dn, rt) (ea_cons h (ea_cons h2 (ea_cons h3 ea_nil))) True.intro rfl
/-- a rule with each of its references moved -/
def sh (dn rt : Int) : Rl → Rl
  | .num n => .num n
  | .cell p => .cell (mv p dn rt)
  | .add a b => .add (sh dn rt a) (sh dn rt b)
  | .sub a b => .sub (sh dn rt a) (sh dn rt b)
  | .mul a b => .mul (sh dn rt a) (sh dn rt b)
  | .pick a b c => .pick (sh dn rt a) (sh dn rt b) (sh dn rt c)
  | .sum p q => .sum (mv p dn rt) (mv q dn rt)
  | .most p q => .most (mv p dn rt) (mv q dn rt)
  | .look a p q b => .look (sh dn rt a) (mv p dn rt) (mv q dn rt) (sh dn rt b)
/-- what is left to do, over what is done -/
def Good (R : Rl) (dn rt : Int) : List Rl → List Rl → Prop
  | [], st => st = [R]
  | n :: rem, st => ∃ T, st = T ++ n.inner.map (sh dn rt) ∧ Good R dn rt rem (T ++ [sh dn rt n])
theorem good_outer (R : Rl) (dn rt : Int) (r : Rl) : ∀ rem st, Good R dn rt rem (st ++ [sh dn rt r]) → Good R dn rt (r.outer.reverse ++ rem) st := by
  have base : ∀ (r : Rl), r.inner = [] → ∀ rem st, Good R dn rt rem (st ++ [sh dn rt r]) → Good R dn rt ([r] ++ rem) st := fun r hi rem st h => ⟨st, by rw [hi]; simp, h⟩
  have two : ∀ (r a b : Rl), r.inner = [a, b] → (∀ rem st, Good R dn rt rem (st ++ [sh dn rt a]) → Good R dn rt (a.outer.reverse ++ rem) st) → (∀ rem st, Good R dn rt rem (st ++ [sh dn rt b]) → Good R dn rt (b.outer.reverse ++ rem) st) →
      ∀ rem st, Good R dn rt rem (st ++ [sh dn rt r]) → Good R dn rt (a.outer.reverse ++ (b.outer.reverse ++ (r :: rem))) st := fun r a b hi ha hb rem st h => by
    refine ha _ _ (hb _ _ ⟨st, ?_, h⟩)
    rw [hi]
    simp
  induction r with
  | num n => exact base _ rfl
  | cell p => exact base _ rfl
  | sum p q => exact base _ rfl
  | most p q => exact base _ rfl
  | add a b ha hb => intro rem st h; simpa [Rl.outer] using two _ a b rfl ha hb rem st h
  | sub a b ha hb => intro rem st h; simpa [Rl.outer] using two _ a b rfl ha hb rem st h
  | mul a b ha hb => intro rem st h; simpa [Rl.outer] using two _ a b rfl ha hb rem st h
  | look a p q b ha hb => intro rem st h; simpa [Rl.outer] using two _ a b rfl ha hb rem st h
  | pick a b c ha hb hc =>
    intro rem st h
    have q : Good R dn rt (a.outer.reverse ++ (b.outer.reverse ++ (c.outer.reverse ++ (Rl.pick a b c :: rem)))) st := by
      refine ha _ _ (hb _ _ (hc _ _ ⟨st, ?_, h⟩))
      simp [Rl.inner]
    simpa [Rl.outer] using q
/-- the whole, from nothing -/
theorem good_all (dn rt : Int) (r : Rl) : Good (sh dn rt r) dn rt r.outer.reverse [] := by
  have q := good_outer (sh dn rt r) dn rt r [] [] rfl
  rwa [List.append_nil] at q
local macro_rules | `(tactic| walk_at "ec") => `(tactic| first
  | (apply ec_moved; (walk_at "x"); (walk_at "x"); (walk_at "x")))
local macro_rules | `(tactic| walk_at "setRef") => `(tactic| (apply w_setL; (walk_at "e"); (rfl); (walk_at "x"); (rfl)))
abbrev sp_shifted (K : PySem.W.Frag) : Sp := spF (α := Rl × Int × Int) K (fun a => [a.1.d, .int a.2.1, .int a.2.2]) (fun a => a.1.size ≤ 1000) (fun a => (sh a.2.1 a.2.2 a.1).d)
theorem ok_shifted (T : Top K mg w) : FnOk P w K mg base CX0 3 T.a_shifted T.d_shifted ["rule", "down", "right"] (sp_shifted K) := by
  refine fn_val T.F_shifted sc_shifted (fun _ => rfl) fun cdv A outer s H E hr => ⟨_, B_shifted T (ok_moved T) (by decide) (ok_outer T) (by decide) hr, fun a hp => ?_⟩
  obtain ⟨r, dn, rt⟩ := a
  have hp : r.size ≤ 1000 := hp
  show Ws K _ [.dat r.d, .dat (.int dn), .dat (.int rt), .no, .no, .no, .no] _
  apply w_seq
  apply w_asgF
  · walk_at "f"
  apply w_seq
  refine w_forN (ei_revL (ev_fresh (fc_outer (ev_weak (ev_var rfl)) hp))) (fun i e => ∃ st x4 x5 x6, Good (sh dn rt r) dn rt (r.outer.reverse.drop i) st ∧ st.length ≤ i ∧ e = [.dat r.d, .dat (.int dn), .dat (.int rt), .own (st.map Rl.d), x4, x5, x6])
    ⟨[], _, _, _, good_all dn rt r, Nat.le_refl _, rfl⟩ ?_ ?_
  · rintro i dd e hd ⟨st, x4, x5, x6, hG, hl, rfl⟩
    rw [← List.map_reverse, List.getElem?_map] at hd
    obtain ⟨n, hn, rfl⟩ := Option.map_eq_some_iff.mp hd
    obtain ⟨hi, hgn⟩ := List.getElem?_eq_some_iff.mp hn
    rw [List.drop_eq_getElem_cons hi, hgn] at hG
    obtain ⟨T', rfl, hG⟩ := hG
    have hi2 : i < 1000 := by
      rw [List.length_reverse, Rl.outer_len] at hi
      omega
    rw [List.length_append] at hl
    have hG2 : (T' ++ [sh dn rt n]).length ≤ i + 1 := by
      rw [List.length_append]
      show T'.length + 1 ≤ i + 1
      omega
    have hz : (T'.map Rl.d).length < 100000 := by
      rw [List.length_map]
      omega
    have two : ∀ (a b : Rl), (T' ++ [sh dn rt a, sh dn rt b]).map Rl.d = (T'.map Rl.d ++ [(sh dn rt a).d]) ++ [(sh dn rt b).d] := fun a b => by simp
    have three : ∀ (a b c : Rl), (T' ++ [sh dn rt a, sh dn rt b, sh dn rt c]).map Rl.d = ((T'.map Rl.d ++ [(sh dn rt a).d]) ++ [(sh dn rt b).d]) ++ [(sh dn rt c).d] := fun a b c => by simp
    have fin : ∀ y4 y5 y6 : Ent, ∃ st x4 x5 x6, Good (sh dn rt r) dn rt (r.outer.reverse.drop (i + 1)) st ∧ st.length ≤ i + 1 ∧ [.dat r.d, .dat (.int dn), .dat (.int rt), .own (T'.map Rl.d ++ [(sh dn rt n).d]), y4, y5, y6] = [.dat r.d, .dat (.int dn), .dat (.int rt), .own (st.map Rl.d), x4, x5, x6] :=
      fun y4 y5 y6 => ⟨_, y4, y5, y6, hG, hG2, by rw [List.map_append]; rfl⟩
    cases n with
    | num m =>
      rw [show T' ++ (Rl.num m).inner.map (sh dn rt) = T' from List.append_nil _]
      apply w_seq
      apply w_asgF (ef_listT (ev_var rfl))
      apply w_seq
      refine w_forU (ei_tup (ev_ixD ?_ T.D_REFERENCES_AT_num)) ?_
      · walk_at "x"
      apply w_seq
      refine w_forU (ei_revT (ev_ixD ?_ T.D_RULES_AT_num)) ?_
      · walk_at "x"
      refine w_append (i := 3) rfl (ev_tupO rfl) hz ?_
      exact fin _ _ _
    | cell p =>
      rw [show T' ++ (Rl.cell p).inner.map (sh dn rt) = T' from List.append_nil _]
      apply w_seq
      apply w_asgF (ef_listT (ev_var rfl))
      apply w_seq
      refine w_forU (ei_tup (ev_ixD ?_ T.D_REFERENCES_AT_cell)) ?_
      · walk_at "x"
      walk_at "setRef"
      apply w_seq
      refine w_forU (ei_revT (ev_ixD ?_ T.D_RULES_AT_cell)) ?_
      · walk_at "x"
      refine w_append (i := 3) rfl (ev_tupO rfl) hz ?_
      exact fin _ _ _
    | sum p q =>
      rw [show T' ++ (Rl.sum p q).inner.map (sh dn rt) = T' from List.append_nil _]
      apply w_seq
      apply w_asgF (ef_listT (ev_var rfl))
      apply w_seq
      refine w_forU (ei_tup (ev_ixD ?_ T.D_REFERENCES_AT_sum)) ?_
      · walk_at "x"
      walk_at "setRef"
      walk_at "setRef"
      apply w_seq
      refine w_forU (ei_revT (ev_ixD ?_ T.D_RULES_AT_sum)) ?_
      · walk_at "x"
      refine w_append (i := 3) rfl (ev_tupO rfl) hz ?_
      exact fin _ _ _
    | most p q =>
      rw [show T' ++ (Rl.most p q).inner.map (sh dn rt) = T' from List.append_nil _]
      apply w_seq
      apply w_asgF (ef_listT (ev_var rfl))
      apply w_seq
      refine w_forU (ei_tup (ev_ixD ?_ T.D_REFERENCES_AT_most)) ?_
      · walk_at "x"
      walk_at "setRef"
      walk_at "setRef"
      apply w_seq
      refine w_forU (ei_revT (ev_ixD ?_ T.D_RULES_AT_most)) ?_
      · walk_at "x"
      refine w_append (i := 3) rfl (ev_tupO rfl) hz ?_
      exact fin _ _ _
    | add a b =>
      rw [show T' ++ (Rl.add a b).inner.map (sh dn rt) = T' ++ [sh dn rt a, sh dn rt b] from rfl, two]
      apply w_seq
      apply w_asgF (ef_listT (ev_var rfl))
      apply w_seq
      refine w_forU (ei_tup (ev_ixD ?_ T.D_REFERENCES_AT_add)) ?_
      · walk_at "x"
      apply w_seq
      refine w_forU (ei_revT (ev_ixD ?_ T.D_RULES_AT_add)) ?_
      · walk_at "x"
      refine w_setPop (i := 3) (k := 5) (by decide) rfl rfl (ev_weak (ev_var rfl)) rfl ?_
      refine w_setPop (i := 3) (k := 5) (by decide) rfl rfl (ev_weak (ev_var rfl)) rfl ?_
      refine w_append (i := 3) rfl (ev_tupO rfl) hz ?_
      exact fin _ _ _
    | sub a b =>
      rw [show T' ++ (Rl.sub a b).inner.map (sh dn rt) = T' ++ [sh dn rt a, sh dn rt b] from rfl, two]
      apply w_seq
      apply w_asgF (ef_listT (ev_var rfl))
      apply w_seq
      refine w_forU (ei_tup (ev_ixD ?_ T.D_REFERENCES_AT_sub)) ?_
      · walk_at "x"
      apply w_seq
      refine w_forU (ei_revT (ev_ixD ?_ T.D_RULES_AT_sub)) ?_
      · walk_at "x"
      refine w_setPop (i := 3) (k := 5) (by decide) rfl rfl (ev_weak (ev_var rfl)) rfl ?_
      refine w_setPop (i := 3) (k := 5) (by decide) rfl rfl (ev_weak (ev_var rfl)) rfl ?_
      refine w_append (i := 3) rfl (ev_tupO rfl) hz ?_
      exact fin _ _ _
    | mul a b =>
      rw [show T' ++ (Rl.mul a b).inner.map (sh dn rt) = T' ++ [sh dn rt a, sh dn rt b] from rfl, two]
      apply w_seq
      apply w_asgF (ef_listT (ev_var rfl))
      apply w_seq
      refine w_forU (ei_tup (ev_ixD ?_ T.D_REFERENCES_AT_mul)) ?_
      · walk_at "x"
      apply w_seq
      refine w_forU (ei_revT (ev_ixD ?_ T.D_RULES_AT_mul)) ?_
      · walk_at "x"
      refine w_setPop (i := 3) (k := 5) (by decide) rfl rfl (ev_weak (ev_var rfl)) rfl ?_
      refine w_setPop (i := 3) (k := 5) (by decide) rfl rfl (ev_weak (ev_var rfl)) rfl ?_
      refine w_append (i := 3) rfl (ev_tupO rfl) hz ?_
      exact fin _ _ _
    | look a p q b =>
      rw [show T' ++ (Rl.look a p q b).inner.map (sh dn rt) = T' ++ [sh dn rt a, sh dn rt b] from rfl, two]
      apply w_seq
      apply w_asgF (ef_listT (ev_var rfl))
      apply w_seq
      refine w_forU (ei_tup (ev_ixD ?_ T.D_REFERENCES_AT_look)) ?_
      · walk_at "x"
      walk_at "setRef"
      walk_at "setRef"
      apply w_seq
      refine w_forU (ei_revT (ev_ixD ?_ T.D_RULES_AT_look)) ?_
      · walk_at "x"
      refine w_setPop (i := 3) (k := 5) (by decide) rfl rfl (ev_weak (ev_var rfl)) rfl ?_
      refine w_setPop (i := 3) (k := 5) (by decide) rfl rfl (ev_weak (ev_var rfl)) rfl ?_
      refine w_append (i := 3) rfl (ev_tupO rfl) hz ?_
      exact fin _ _ _
    | pick a b c =>
      rw [show T' ++ (Rl.pick a b c).inner.map (sh dn rt) = T' ++ [sh dn rt a, sh dn rt b, sh dn rt c] from rfl, three]
      apply w_seq
      apply w_asgF (ef_listT (ev_var rfl))
      apply w_seq
      refine w_forU (ei_tup (ev_ixD ?_ T.D_REFERENCES_AT_pick)) ?_
      · walk_at "x"
      apply w_seq
      refine w_forU (ei_revT (ev_ixD ?_ T.D_RULES_AT_pick)) ?_
      · walk_at "x"
      refine w_setPop (i := 3) (k := 5) (by decide) rfl rfl (ev_weak (ev_var rfl)) rfl ?_
      refine w_setPop (i := 3) (k := 5) (by decide) rfl rfl (ev_weak (ev_var rfl)) rfl ?_
      refine w_setPop (i := 3) (k := 5) (by decide) rfl rfl (ev_weak (ev_var rfl)) rfl ?_
      refine w_append (i := 3) rfl (ev_tupO rfl) hz ?_
      exact fin _ _ _
  · rintro e ⟨st, x4, x5, x6, hG, hl, rfl⟩
    rw [List.length_reverse, List.length_map] at hG
    rw [List.drop_eq_nil_of_le (by rw [List.length_reverse]; exact Nat.le_refl _)] at hG
    have hG : st = [sh dn rt r] := hG
    subst hG
    apply w_ret
    · walk_at "x"
    · exact .inl rfl
end
end K03

namespace K03
open PySem PySem.Spec L2 Pu Pr
open Evl (Ex rLenS rMax2 rListS)
open PyProof.Rows (envOfC)
/-! own words of the walk -/
local macro_rules | `(tactic| walk_at "side") => `(tactic| first
  | rfl | exact at_m1 | exact at_m1' | exact at_m1'' | exact at_m2 | exact at_m2' | exact at_m3 | exact at0 | exact at1 | exact at2 | exact at3 | exact at4 | assumption | decide | omega | exact ⟨by decide, by decide⟩ | exact ⟨by omega, by omega⟩ | exact Or.inr ⟨by omega, by omega⟩ | exact Or.inl ⟨by omega, by omega⟩ | exact Or.inr ⟨by decide, by decide⟩)
local macro_rules | `(tactic| walk_at "ec") => `(tactic| fail)
local macro_rules | `(tactic| walk_at "fc") => `(tactic| fail)
local macro_rules | `(tactic| walk_at "tab") => `(tactic| assumption)
local macro_rules | `(tactic| walk_at "shape") => `(tactic| first | rfl | assumption)
local macro_rules | `(tactic| walk_at "e") => `(tactic| first
  | exact ev_int | exact ev_str | exact ev_bl | exact ev_non | exact ev_var rfl
  | (apply ev_ixO; (rfl); (walk_at "x"); (walk_at "side"))
  | (apply ev_ixT; (walk_at "e"); (walk_at "x"); (walk_at "side"))
  | (apply ev_ixL; (walk_at "e"); (walk_at "x"); (walk_at "side"))
  | (apply ev_I0; (walk_at "x"); (walk_at "x"); (rfl))
  | (apply ev_I0b; (walk_at "x"); (walk_at "x"); (rfl))
  | (apply ev_I; (walk_at "x"); (walk_at "x"); (rfl); (walk_at "side"))
  | (apply ev_neg; (walk_at "x"); (rfl))
  | (apply ev_eqI; (walk_at "x"); (walk_at "x"))
  | (apply ev_eqS; (walk_at "x"); (walk_at "x"))
  | (apply ev_eqB; (walk_at "x"); (walk_at "x"))
  | (apply ev_neI; (walk_at "x"); (walk_at "x"))
  | (apply ev_neS; (walk_at "x"); (walk_at "x"))
  | (apply ev_eqD; (walk_at "x"); (walk_at "x"); (walk_at "shape"); (walk_at "shape"))
  | (apply ev_neD; (walk_at "x"); (walk_at "x"); (walk_at "shape"); (walk_at "shape"))
  | (apply ev_andV; (walk_at "x"); (intro _; walk_at "x"))
  | (apply ev_orV; (walk_at "x"); (intro _; walk_at "x"))
  | (apply ev_notV; (walk_at "x"))
  | (apply ev_tup; (walk_at "s"); (exact Nat.le_of_ble_eq_true rfl))
  | (apply ev_slTb; (walk_at "e"); (walk_at "o"); (walk_at "o"); (rfl))
  | (apply ev_lenL; (walk_at "x"))
  | (apply ev_lenT; (walk_at "x"))
  | (apply ev_min2; (walk_at "x"); (walk_at "x"))
  | (apply ev_max2; (walk_at "x"); (walk_at "x"))
  | (apply ev_isi; (walk_at "x"); (first | exact kb_int_int | exact kb_int_bool | exact kb_int_str | exact kb_int_list | exact kb_int_tuple | exact kb_bool_int | exact kb_bool_bool | exact kb_bool_str | exact kb_bool_list | exact kb_bool_tuple | exact kb_str_int | exact kb_str_bool | exact kb_str_str | exact kb_str_list | exact kb_str_tuple | exact kb_list_int | exact kb_list_bool | exact kb_list_str | exact kb_list_list | exact kb_list_tuple | exact kb_tuple_int | exact kb_tuple_bool | exact kb_tuple_str | exact kb_tuple_list | exact kb_tuple_tuple | exact kb_NoneType_int | exact kb_NoneType_bool | exact kb_NoneType_str | exact kb_NoneType_list | exact kb_NoneType_tuple))
  | (apply ev_intB; (walk_at "x"))
  | (apply ev_ixD; (walk_at "x"); (walk_at "tab"))
  | (apply ev_isN; (walk_at "x"))
  | (apply ev_tupO; (rfl))
  | (apply ev_tupL; (walk_at "e"))
  | walk_at "ec"
  | (apply ev_fresh; (walk_at "f")))
local macro_rules | `(tactic| walk_at "f") => `(tactic| first
  | (apply ef_lst; (walk_at "s"); (exact Nat.le_of_ble_eq_true rfl))
  | (apply ef_catA; (walk_at "e"); (walk_at "e"); (walk_at "side"))
  | (apply ef_slO; (rfl); (walk_at "o"); (walk_at "o"))
  | (apply ef_slL; (walk_at "e"); (walk_at "o"); (walk_at "o"))
  | (apply ef_listT; (walk_at "e"))
  | (apply ef_listL; (walk_at "e"))
  | walk_at "fc")
local macro_rules | `(tactic| walk_at "x") => `(tactic| first
  | exact ev_varO rfl
  | (apply ev_weak; (walk_at "e")))
local macro_rules | `(tactic| walk_at "o") => `(tactic| first
  | exact eo_none
  | (apply eo_some; (walk_at "x")))
local macro_rules | `(tactic| walk_at "a") => `(tactic| first
  | exact ea_nil
  | (apply ea_cons; (walk_at "x"); (walk_at "a")))
local macro_rules | `(tactic| walk_at "s") => `(tactic| first
  | exact es_nil
  | (apply es_cons; (walk_at "e"); (walk_at "s")))
local macro_rules | `(tactic| walk_at "b") => `(tactic| first
  | exact eb_yes
  | (apply eb_test; (walk_at "x"))
  | (apply eb_B; (walk_at "x"))
  | (apply eb_truB; (walk_at "x"))
  | (apply eb_truL; (walk_at "x"))
  | (apply eb_truT; (walk_at "x"))
  | (apply eb_truI; (walk_at "x"))
  | (apply eb_not; (walk_at "b"))
  | (apply eb_and; (walk_at "b"); (intro _; walk_at "b"))
  | (apply eb_or; (walk_at "b"); (intro _; walk_at "b")))
section
variable {P : Program} {w : World} {K : PySem.W.Frag} {mg : Str → Option Value} {base : Heap}
/-! ### the law's helpers -/
abbrev sp__law_cell_at (K : PySem.W.Frag) : Sp := spF (α := List Int × Nat) K (fun a => [.list (a.1.map PyData.int), .int (a.2 : Nat)]) (fun _ => True) (fun a => .int (cell a.1 a.2))
theorem ok_cell (T : Top K mg w) : FnOk P w K mg base CX0 1 T.a__law_cell_at T.d__law_cell_at ["_law_script", "_law_k"] (sp__law_cell_at K) := by
  refine fn_val T.F__law_cell_at sc__law_cell_at (fun _ => rfl) fun cdv A outer s H E hr => ⟨_, B__law_cell_at T hr, fun a hp => ?_⟩
  obtain ⟨ns, n⟩ := a
  show Ws K _ [.dat (.list (ns.map PyData.int)), .dat (.int (n : Nat))] _
  apply w_seq
  apply w_if
  · walk_at "b"
  · intro hb
    rw [List.length_map] at hb
    have h1 := of_decide_eq_true hb
    have h2 : n < ns.length := by omega
    have h3 := ints_at h2
    apply w_ret
    · walk_at "x"
    · exact .inl rfl
  · intro hb
    rw [List.length_map] at hb
    have h1 := of_decide_eq_false hb
    have h2 : ns.length ≤ n := by omega
    apply w_next
    apply w_ret
    · walk_at "x"
    · left
      show Rt.val (.int 0) = Rt.val (.int (cell ns n))
      unfold cell
      rw [List.getD_eq_getElem?_getD, List.getElem?_eq_none h2]
      rfl
theorem ec_cell {es : Es} {ta tb : TE} {ns : List Int} {i : Int} {E : XK} (h : EvX K ta es (.list (ns.map PyData.int))) (h2 : EvX K tb es (.int i)) (h0 : 0 ≤ i) : EvE K (tCall (sp__law_cell_at K) [] E (tCons ta (tCons tb tNil))) es (.int (cell ns i.toNat)) :=
  ev_call (args := fun a : List Int × Nat => [PyData.list (a.1.map PyData.int), PyData.int (a.2 : Nat)]) (ns, i.toNat) (ea_cons h (ea_cons (ev_isX h2 (by rw [Int.toNat_of_nonneg h0])) ea_nil)) True.intro rfl
def refBy (c : Int) : Rf := ⟨c % 12, c / 12 % 12, decide (c / 144 % 2 = 1), decide (c / 288 % 2 = 1)⟩
abbrev sp__law_ref_by (K : PySem.W.Frag) : Sp := spF (α := Int) K (fun c => [.int c]) (fun _ => True) (fun c => (refBy c).d)
theorem ok_ref (T : Top K mg w) : FnOk P w K mg base CX0 1 T.a__law_ref_by T.d__law_ref_by ["_law_cell"] (sp__law_ref_by K) := by
  refine fn_val T.F__law_ref_by sc__law_ref_by (fun _ => rfl) fun cdv A outer s H E hr => ⟨_, B__law_ref_by T hr, fun c hp => ?_⟩
  show Ws K _ [.dat (.int c)] _
  apply w_ret
  · walk_at "x"
  · exact .inl rfl
theorem ec_ref {es : Es} {ta : TE} {c : Int} {E : XK} (h : EvX K ta es (.int c)) : EvE K (tCall (sp__law_ref_by K) [] E (tCons ta tNil)) es (refBy c).d :=
  ev_call (args := fun c : Int => [PyData.int c]) c (ea_cons h ea_nil) True.intro rfl
def leafBy (c : Int) : Rl :=
  if c % 6 = 0 then .num (c / 6 % (10 : Int) ^ (30 : Int).toNat - (10 : Int) ^ (9 : Int).toNat)
  else if c % 6 = 1 then .sum (refBy (c / 6)) (refBy (c / 6 * 48271 % 1000003))
  else if c % 6 = 2 then .most (refBy (c / 6)) (refBy (c / 6 * 69621 % 1000033))
  else .cell (refBy (c / 6))
local macro_rules | `(tactic| walk_at "ec") => `(tactic| first
  | (apply ec_ref; (walk_at "x"))
  | (apply ec_cell; (walk_at "x"); (walk_at "x"); (decide)))
abbrev sp__law_leaf_by (K : PySem.W.Frag) : Sp := spF (α := Int) K (fun c => [.int c]) (fun _ => True) (fun c => (leafBy c).d)
theorem ok_leaf (T : Top K mg w) : FnOk P w K mg base CX0 2 T.a__law_leaf_by T.d__law_leaf_by ["_law_cell"] (sp__law_leaf_by K) := by
  refine fn_val T.F__law_leaf_by sc__law_leaf_by (fun _ => rfl) fun cdv A outer s H E hr => ⟨_, B__law_leaf_by T (ok_ref T) (by decide) hr, fun c hp => ?_⟩
  show Ws K _ [.dat (.int c), .no] _
  have h30 : 0 < (10 : Int) ^ (30 : Int).toNat := by decide
  apply w_seq
  apply w_asg
  · walk_at "e"
  apply w_seq
  apply w_if
  · walk_at "b"
  · intro h0
    have h0 := of_decide_eq_true h0
    apply w_ret
    · walk_at "x"
    · left
      unfold leafBy
      rw [if_pos h0]
      rfl
  intro h0
  have h0 := of_decide_eq_false h0
  apply w_next
  apply w_seq
  apply w_if
  · walk_at "b"
  · intro h1
    have h1 := of_decide_eq_true h1
    apply w_ret
    · walk_at "x"
    · left
      unfold leafBy
      rw [if_neg h0, if_pos h1]
      rfl
  intro h1
  have h1 := of_decide_eq_false h1
  apply w_next
  apply w_seq
  apply w_if
  · walk_at "b"
  · intro h2
    have h2 := of_decide_eq_true h2
    apply w_ret
    · walk_at "x"
    · left
      unfold leafBy
      rw [if_neg h0, if_neg h1, if_pos h2]
      rfl
  intro h2
  have h2 := of_decide_eq_false h2
  apply w_next
  apply w_ret
  · walk_at "x"
  · left
    unfold leafBy
    rw [if_neg h0, if_neg h1, if_neg h2]
    rfl
theorem ec_leaf {es : Es} {ta : TE} {c : Int} {E : XK} (h : EvX K ta es (.int c)) : EvE K (tCall (sp__law_leaf_by K) [] E (tCons ta tNil)) es (leafBy c).d :=
  ev_call (args := fun c : Int => [PyData.int c]) c (ea_cons h ea_nil) True.intro (Rl.imm_d _)
theorem leaf_size (c : Int) : (leafBy c).size = 1 := by
  unfold leafBy
  split
  · rfl
  split
  · rfl
  split <;> rfl
local macro_rules | `(tactic| walk_at "ec") => `(tactic| first
  | (apply ec_leaf; (walk_at "x"))
  | (apply ec_ref; (walk_at "x"))
  | (apply ec_cell; (walk_at "x"); (walk_at "x"); (decide)))
/-! ### the stack -/
def op2 (k : Int) (a b : Rl) : Rl := if k = 0 then .add a b else if k = 1 then .sub a b else .mul a b
def pushed (st : List Rl) (c : Int) : List Rl :=
  match st.reverse with
  | b :: a :: s =>
    if c % 12 < 3 then s.reverse ++ [op2 (c % 12) a b]
    else if c % 12 = 4 then s.reverse ++ [.look a (refBy (c / 12)) (refBy (c / 12 * 48271 % 1000003)) b]
    else match s with
      | x :: s' => if c % 12 = 3 then s'.reverse ++ [.pick x a b] else st ++ [leafBy (c / 12)]
      | [] => st ++ [leafBy (c / 12)]
  | _ => st ++ [leafBy (c / 12)]
def tot (st : List Rl) : Nat := (st.map Rl.size).sum
theorem tot_app (s r : List Rl) : tot (s ++ r) = tot s + tot r := by
  unfold tot
  rw [List.map_append, List.sum_append]
theorem op2_size (k : Int) (a b : Rl) : (op2 k a b).size = a.size + b.size + 1 := by
  unfold op2
  split
  · rfl
  split <;> rfl
theorem split2 (st : List Rl) : st = [] ∨ (∃ x, st = [x]) ∨ (∃ a b, st = [a, b]) ∨ ∃ s x a b, st = s ++ [x, a, b] := by
  rcases List.eq_nil_or_concat st with rfl | ⟨s, b, rfl⟩
  · exact .inl rfl
  rcases List.eq_nil_or_concat s with rfl | ⟨s, a, rfl⟩
  · exact .inr (.inl ⟨b, rfl⟩)
  rcases List.eq_nil_or_concat s with rfl | ⟨s, x, rfl⟩
  · exact .inr (.inr (.inl ⟨a, b, rfl⟩))
  · exact .inr (.inr (.inr ⟨s, x, a, b, by simp⟩))
theorem pushed0 (c : Int) : pushed [] c = [leafBy (c / 12)] := rfl
theorem pushed1 (x : Rl) (c : Int) : pushed [x] c = [x, leafBy (c / 12)] := rfl
theorem pushed2 (a b : Rl) (c : Int) : pushed [a, b] c = if c % 12 < 3 then [op2 (c % 12) a b] else if c % 12 = 4 then [.look a (refBy (c / 12)) (refBy (c / 12 * 48271 % 1000003)) b] else [a, b, leafBy (c / 12)] := rfl
theorem pushed3 (s : List Rl) (x a b : Rl) (c : Int) : pushed (s ++ [x, a, b]) c = if c % 12 < 3 then s ++ [x, op2 (c % 12) a b] else if c % 12 = 4 then s ++ [x, .look a (refBy (c / 12)) (refBy (c / 12 * 48271 % 1000003)) b]
    else if c % 12 = 3 then s ++ [.pick x a b] else s ++ [x, a, b, leafBy (c / 12)] := by
  unfold pushed
  simp
theorem pushed_tot (st : List Rl) (c : Int) : tot (pushed st c) ≤ tot st + 1 ∧ pushed st c ≠ [] := by
  rcases split2 st with rfl | ⟨x, rfl⟩ | ⟨a, b, rfl⟩ | ⟨s, x, a, b, rfl⟩
  · rw [pushed0]
    simp [tot, leaf_size]
  · rw [pushed1]
    simp [tot, leaf_size]
  · rw [pushed2]
    split
    · simp [tot, op2_size]
    split
    · simp [tot, Rl.size]
    · simp [tot, leaf_size]; omega
  · rw [pushed3]
    split
    · rw [tot_app, tot_app]
      simp [tot, op2_size]; omega
    split
    · rw [tot_app, tot_app]
      simp [tot, Rl.size]; omega
    split
    · rw [tot_app, tot_app]
      simp [tot, Rl.size]; omega
    · rw [tot_app, tot_app]
      simp [tot, leaf_size]; omega
theorem op2_d {k : Int} (h0 : 0 ≤ k) (h3 : k < 3) (a b : Rl) : ∃ z, atI [PyData.str "add", .str "sub", .str "mul"] k = some (.str z) ∧ (op2 k a b).d = .tuple [.str z, a.d, b.d] := by
  have h : k = 0 ∨ k = 1 ∨ k = 2 := by omega
  rcases h with rfl | rfl | rfl
  · exact ⟨"add", rfl, rfl⟩
  · exact ⟨"sub", rfl, rfl⟩
  · exact ⟨"mul", rfl, rfl⟩
theorem two_of {st : List Rl} (h : 1 < st.length) : ∃ s a b, st = s ++ [a, b] := by
  rcases split2 st with rfl | ⟨x, rfl⟩ | ⟨a, b, rfl⟩ | ⟨s, x, a, b, rfl⟩
  · simp at h
  · simp at h
  · exact ⟨[], a, b, rfl⟩
  · exact ⟨s ++ [x], a, b, by simp⟩
theorem three_of {st : List Rl} (h : 2 < st.length) : ∃ s x a b, st = s ++ [x, a, b] := by
  rcases split2 st with rfl | ⟨x, rfl⟩ | ⟨a, b, rfl⟩ | ⟨s, x, a, b, rfl⟩
  · simp at h
  · simp at h
  · simp at h
  · exact ⟨s, x, a, b, rfl⟩
theorem pushed_op {s : List Rl} {a b : Rl} {c : Int} (h : c % 12 < 3) : pushed (s ++ [a, b]) c = s ++ [op2 (c % 12) a b] := by
  unfold pushed
  simp [h]
theorem pushed_look {s : List Rl} {a b : Rl} {c : Int} (h : c % 12 = 4) : pushed (s ++ [a, b]) c = s ++ [.look a (refBy (c / 12)) (refBy (c / 12 * 48271 % 1000003)) b] := by
  unfold pushed
  simp [h]
theorem pushed_pick {s : List Rl} {x a b : Rl} {c : Int} (h : c % 12 = 3) : pushed (s ++ [x, a, b]) c = s ++ [.pick x a b] := by
  rw [pushed3, if_neg (by omega), if_neg (by omega), if_pos h]
theorem pushed_leaf {st : List Rl} {c : Int} (h1 : ¬ (c % 12 < 3 ∧ 1 < st.length)) (h2 : ¬ (c % 12 = 3 ∧ 2 < st.length)) (h3 : ¬ (c % 12 = 4 ∧ 1 < st.length)) : pushed st c = st ++ [leafBy (c / 12)] := by
  rcases split2 st with rfl | ⟨x, rfl⟩ | ⟨a, b, rfl⟩ | ⟨s, x, a, b, rfl⟩
  · rfl
  · rfl
  · simp at h1 h3
    rw [pushed2, if_neg (by omega), if_neg (by omega)]
    rfl
  · simp at h1 h2 h3
    rw [pushed3, if_neg (by omega), if_neg (by omega), if_neg (by omega)]
    simp
abbrev sp__law_pushed (K : PySem.W.Frag) : Sp := spL (α := List Rl × Int) K (fun a => [.list (a.1.map Rl.d), .int a.2]) (fun a => a.1.length ≤ 1000) (fun a => (pushed a.1 a.2).map Rl.d)
theorem ok_pushed (T : Top K mg w) : FnOk P w K mg base CX0 3 T.a__law_pushed T.d__law_pushed ["_law_stack", "_law_cell"] (sp__law_pushed K) := by
  refine fn_lst T.F__law_pushed sc__law_pushed (fun _ => rfl) fun cdv A outer s H E hr => ⟨_, B__law_pushed T (ok_leaf T) (by decide) (ok_ref T) (by decide) hr, fun a hp => ?_⟩
  obtain ⟨st, c⟩ := a
  have hp : st.length ≤ 1000 := hp
  have hl : ((st.map Rl.d).length : Int) = st.length := by rw [List.length_map]
  show Ws K _ [.dat (.list (st.map Rl.d)), .dat (.int c), .no, .no] _
  apply w_seq
  apply w_asg
  · walk_at "e"
  apply w_seq
  apply w_if
  · walk_at "b"
  · intro hb
    obtain ⟨h1, h2⟩ := Bool.and_eq_true_iff.mp hb
    have h1 := of_decide_eq_true h1
    have h2 := of_decide_eq_true h2
    obtain ⟨s, a, b, rfl⟩ := two_of (st := st) (by omega)
    have m : (s ++ [a, b]).map Rl.d = s.map Rl.d ++ [a.d, b.d] := List.map_append
    rw [m]
    have hc : cutD (s.map Rl.d ++ [a.d, b.d]) none (some (-2)) = s.map Rl.d := cut_back rfl (by decide)
    obtain ⟨z, hz1, hz2⟩ := op2_d (k := c % 12) (by omega) h1 a b
    refine w_retF (ev_isF (ds := s.map Rl.d ++ [.tuple [.str z, a.d, b.d]]) (ef_catA (ev_fresh (ev_isF (ef_slL (ev_var rfl) eo_none (eo_some ?_)) hc)) (ev_fresh (ef_lst (es_cons ?_ es_nil) (Nat.le_of_ble_eq_true rfl))) ?_) ?_) rfl
    · walk_at "x"
    · walk_at "e"
    · rw [List.length_append] at hp
      rw [List.length_map]
      show s.length + 1 ≤ 100000
      omega
    · show _ = (pushed (s ++ [a, b]) c).map Rl.d
      rw [pushed_op h1, List.map_append]
      show _ ++ [_] = _ ++ [(op2 (c % 12) a b).d]
      rw [hz2]
  intro hb
  have n1 : ¬ (c % 12 < 3 ∧ 1 < st.length) := fun ⟨h1, h2⟩ => by
    rw [decide_eq_true h1, decide_eq_true (show (1 : Int) < ((st.map Rl.d).length : Int) by omega)] at hb
    cases hb
  apply w_next
  apply w_seq
  apply w_if
  · walk_at "b"
  · intro hb
    obtain ⟨h1, h2⟩ := Bool.and_eq_true_iff.mp hb
    have h1 := of_decide_eq_true h1
    have h2 := of_decide_eq_true h2
    obtain ⟨s, x, a, b, rfl⟩ := three_of (st := st) (by omega)
    have m : (s ++ [x, a, b]).map Rl.d = s.map Rl.d ++ [x.d, a.d, b.d] := List.map_append
    rw [m]
    have hc : cutD (s.map Rl.d ++ [x.d, a.d, b.d]) none (some (-3)) = s.map Rl.d := cut_back rfl (by decide)
    refine w_retF (ev_isF (ds := s.map Rl.d ++ [(Rl.pick x a b).d]) (ef_catA (ev_fresh (ev_isF (ef_slL (ev_var rfl) eo_none (eo_some ?_)) hc)) (ev_fresh (ef_lst (es_cons ?_ es_nil) (Nat.le_of_ble_eq_true rfl))) ?_) ?_) rfl
    · walk_at "x"
    · show EvE K _ _ (.tuple [.str "pick", x.d, a.d, b.d])
      walk_at "e"
    · rw [List.length_append] at hp
      rw [List.length_map]
      show s.length + 1 ≤ 100000
      omega
    · show _ = (pushed (s ++ [x, a, b]) c).map Rl.d
      rw [pushed_pick h1, List.map_append]
      rfl
  intro hb
  have n2 : ¬ (c % 12 = 3 ∧ 2 < st.length) := fun ⟨h1, h2⟩ => by
    rw [decide_eq_true h1, decide_eq_true (show (2 : Int) < ((st.map Rl.d).length : Int) by omega)] at hb
    cases hb
  apply w_next
  apply w_seq
  apply w_if
  · walk_at "b"
  · intro hb
    obtain ⟨h1, h2⟩ := Bool.and_eq_true_iff.mp hb
    have h1 := of_decide_eq_true h1
    have h2 := of_decide_eq_true h2
    obtain ⟨s, a, b, rfl⟩ := two_of (st := st) (by omega)
    have m : (s ++ [a, b]).map Rl.d = s.map Rl.d ++ [a.d, b.d] := List.map_append
    rw [m]
    have hc : cutD (s.map Rl.d ++ [a.d, b.d]) none (some (-2)) = s.map Rl.d := cut_back rfl (by decide)
    apply w_seq
    apply w_asg
    · walk_at "e"
    refine w_retF (ev_isF (ds := s.map Rl.d ++ [(Rl.look a (refBy (c / 12)) (refBy (c / 12 * 48271 % 1000003)) b).d]) (ef_catA (ev_fresh (ev_isF (ef_slL (ev_var rfl) eo_none (eo_some ?_)) hc)) (ev_fresh (ef_lst (es_cons ?_ es_nil) (Nat.le_of_ble_eq_true rfl))) ?_) ?_) rfl
    · walk_at "x"
    · show EvE K _ _ (.tuple [.str "look", a.d, (refBy (c / 12)).d, (refBy (c / 12 * 48271 % 1000003)).d, b.d])
      walk_at "e"
    · rw [List.length_append] at hp
      rw [List.length_map]
      show s.length + 1 ≤ 100000
      omega
    · show _ = (pushed (s ++ [a, b]) c).map Rl.d
      rw [pushed_look h1, List.map_append]
      rfl
  intro hb
  have n3 : ¬ (c % 12 = 4 ∧ 1 < st.length) := fun ⟨h1, h2⟩ => by
    rw [decide_eq_true h1, decide_eq_true (show (1 : Int) < ((st.map Rl.d).length : Int) by omega)] at hb
    cases hb
  apply w_next
  refine w_retF (ev_isF (ds := st.map Rl.d ++ [(leafBy (c / 12)).d]) (ef_catA ?_ (ev_fresh (ef_lst (es_cons ?_ es_nil) (Nat.le_of_ble_eq_true rfl))) ?_) ?_) rfl
  · walk_at "e"
  · walk_at "e"
  · rw [List.length_map]
    show st.length + 1 ≤ 100000
    omega
  · show _ = (pushed st c).map Rl.d
    rw [pushed_leaf n1 n2 n3, List.map_append]
    rfl
theorem fc_pushed {es : Es} {ta tb : TE} {st : List Rl} {c : Int} {E : XK} (h : EvX K ta es (.list (st.map Rl.d))) (h2 : EvX K tb es (.int c)) (hz : st.length ≤ 1000) : EvF K (tCall (sp__law_pushed K) [] E (tCons ta (tCons tb tNil))) es ((pushed st c).map Rl.d) :=
  ef_call (args := fun a : List Rl × Int => [PyData.list (a.1.map Rl.d), .int a.2]) (st, c) (ea_cons h (ea_cons h2 ea_nil)) hz (Rl.imm_all _)
end
end K03

namespace K03
open PySem PySem.Spec L2 Pu Pr
open Evl (Ex rLenS rMax2 rListS)
open PyProof.Rows (envOfC)
/-! own words of the walk -/
local macro_rules | `(tactic| walk_at "side") => `(tactic| first
  | rfl | exact at_m1 | exact at_m1' | exact at_m1'' | exact at_m2 | exact at_m2' | exact at_m3 | exact at0 | exact at1 | exact at2 | exact at3 | exact at4 | assumption | decide | omega | exact ⟨by decide, by decide⟩ | exact ⟨by omega, by omega⟩ | exact Or.inr ⟨by omega, by omega⟩ | exact Or.inl ⟨by omega, by omega⟩ | exact Or.inr ⟨by decide, by decide⟩)
local macro_rules | `(tactic| walk_at "ec") => `(tactic| fail)
local macro_rules | `(tactic| walk_at "fc") => `(tactic| fail)
local macro_rules | `(tactic| walk_at "tab") => `(tactic| assumption)
local macro_rules | `(tactic| walk_at "shape") => `(tactic| first | rfl | assumption)
local macro_rules | `(tactic| walk_at "e") => `(tactic| first
  | exact ev_int | exact ev_str | exact ev_bl | exact ev_non | exact ev_var rfl
  | (apply ev_ixO; (rfl); (walk_at "x"); (walk_at "side"))
  | (apply ev_ixT; (walk_at "e"); (walk_at "x"); (walk_at "side"))
  | (apply ev_ixL; (walk_at "e"); (walk_at "x"); (walk_at "side"))
  | (apply ev_I0; (walk_at "x"); (walk_at "x"); (rfl))
  | (apply ev_I0b; (walk_at "x"); (walk_at "x"); (rfl))
  | (apply ev_I; (walk_at "x"); (walk_at "x"); (rfl); (walk_at "side"))
  | (apply ev_neg; (walk_at "x"); (rfl))
  | (apply ev_eqI; (walk_at "x"); (walk_at "x"))
  | (apply ev_eqS; (walk_at "x"); (walk_at "x"))
  | (apply ev_eqB; (walk_at "x"); (walk_at "x"))
  | (apply ev_neI; (walk_at "x"); (walk_at "x"))
  | (apply ev_neS; (walk_at "x"); (walk_at "x"))
  | (apply ev_eqD; (walk_at "x"); (walk_at "x"); (walk_at "shape"); (walk_at "shape"))
  | (apply ev_neD; (walk_at "x"); (walk_at "x"); (walk_at "shape"); (walk_at "shape"))
  | (apply ev_andV; (walk_at "x"); (intro _; walk_at "x"))
  | (apply ev_orV; (walk_at "x"); (intro _; walk_at "x"))
  | (apply ev_notV; (walk_at "x"))
  | (apply ev_tup; (walk_at "s"); (exact Nat.le_of_ble_eq_true rfl))
  | (apply ev_slTb; (walk_at "e"); (walk_at "o"); (walk_at "o"); (rfl))
  | (apply ev_lenL; (walk_at "x"))
  | (apply ev_lenT; (walk_at "x"))
  | (apply ev_min2; (walk_at "x"); (walk_at "x"))
  | (apply ev_max2; (walk_at "x"); (walk_at "x"))
  | (apply ev_isi; (walk_at "x"); (first | exact kb_int_int | exact kb_int_bool | exact kb_int_str | exact kb_int_list | exact kb_int_tuple | exact kb_bool_int | exact kb_bool_bool | exact kb_bool_str | exact kb_bool_list | exact kb_bool_tuple | exact kb_str_int | exact kb_str_bool | exact kb_str_str | exact kb_str_list | exact kb_str_tuple | exact kb_list_int | exact kb_list_bool | exact kb_list_str | exact kb_list_list | exact kb_list_tuple | exact kb_tuple_int | exact kb_tuple_bool | exact kb_tuple_str | exact kb_tuple_list | exact kb_tuple_tuple | exact kb_NoneType_int | exact kb_NoneType_bool | exact kb_NoneType_str | exact kb_NoneType_list | exact kb_NoneType_tuple))
  | (apply ev_intB; (walk_at "x"))
  | (apply ev_ixD; (walk_at "x"); (walk_at "tab"))
  | (apply ev_isN; (walk_at "x"))
  | (apply ev_tupO; (rfl))
  | (apply ev_tupL; (walk_at "e"))
  | walk_at "ec"
  | (apply ev_fresh; (walk_at "f")))
local macro_rules | `(tactic| walk_at "f") => `(tactic| first
  | (apply ef_lst; (walk_at "s"); (exact Nat.le_of_ble_eq_true rfl))
  | (apply ef_catA; (walk_at "e"); (walk_at "e"); (walk_at "side"))
  | (apply ef_slO; (rfl); (walk_at "o"); (walk_at "o"))
  | (apply ef_slL; (walk_at "e"); (walk_at "o"); (walk_at "o"))
  | (apply ef_listT; (walk_at "e"))
  | (apply ef_listL; (walk_at "e"))
  | walk_at "fc")
local macro_rules | `(tactic| walk_at "x") => `(tactic| first
  | exact ev_varO rfl
  | (apply ev_weak; (walk_at "e")))
local macro_rules | `(tactic| walk_at "o") => `(tactic| first
  | exact eo_none
  | (apply eo_some; (walk_at "x")))
local macro_rules | `(tactic| walk_at "a") => `(tactic| first
  | exact ea_nil
  | (apply ea_cons; (walk_at "x"); (walk_at "a")))
local macro_rules | `(tactic| walk_at "s") => `(tactic| first
  | exact es_nil
  | (apply es_cons; (walk_at "e"); (walk_at "s")))
local macro_rules | `(tactic| walk_at "b") => `(tactic| first
  | exact eb_yes
  | (apply eb_test; (walk_at "x"))
  | (apply eb_B; (walk_at "x"))
  | (apply eb_truB; (walk_at "x"))
  | (apply eb_truL; (walk_at "x"))
  | (apply eb_truT; (walk_at "x"))
  | (apply eb_truI; (walk_at "x"))
  | (apply eb_not; (walk_at "b"))
  | (apply eb_and; (walk_at "b"); (intro _; walk_at "b"))
  | (apply eb_or; (walk_at "b"); (intro _; walk_at "b")))
section
variable {P : Program} {w : World} {K : PySem.W.Frag} {mg : Str → Option Value} {base : Heap}
/-! ### what stands within a rule -/
def isRf : Pt → Bool
  | .rf _ => true
  | _ => false
abbrev sp__law_is_ref (K : PySem.W.Frag) : Sp := spF (α := Pt) K (fun p => [p.d]) (fun _ => True) (fun p => .bool (isRf p))
theorem ev_isiB {es : Es} {ta : TE} {d : PyData} {n : String} {b : Bool} (ha : EvX K ta es d) (hb : kitB (tyName d) n = some b) : EvX K (tCB (rIsi K) (tCons ta (tCons (tC (.ty n)) tNil))) es (.bool b) := ev_weak (ev_isi ha hb)
theorem ok_isref (T : Top K mg w) : FnOk P w K mg base CX0 1 T.a__law_is_ref T.d__law_is_ref ["_law_part"] (sp__law_is_ref K) := by
  refine fn_val T.F__law_is_ref sc__law_is_ref (fun _ => rfl) fun cdv A outer s H E hr => ⟨_, B__law_is_ref T hr, fun p hp => ?_⟩
  show Ws K _ [.dat p.d] _
  cases p with
  | s x =>
    refine w_ret (d := .bool (false && false)) (ev_weak (ev_andV (ev_isiB (ev_weak (ev_var rfl)) kb_str_tuple) fun h => nomatch h)) (.inl rfl)
  | i n =>
    refine w_ret (d := .bool (false && false)) (ev_weak (ev_andV (ev_isiB (ev_weak (ev_var rfl)) kb_int_tuple) fun h => nomatch h)) (.inl rfl)
  | b x =>
    refine w_ret (d := .bool (false && false)) (ev_weak (ev_andV (ev_isiB (ev_weak (ev_var rfl)) kb_bool_tuple) fun h => nomatch h)) (.inl rfl)
  | rf x =>
    apply w_ret
    · walk_at "x"
    · exact .inl rfl
  | rl r =>
    have t := kb_rl_tuple r
    cases r with
    | pick x y z =>
      have t2 := kb_rl_bool y
      apply w_ret
      · apply ev_weak
        apply ev_andV
        · exact ev_isiB (ev_weak (ev_var rfl)) t
        intro _
        apply ev_weak
        apply ev_andV
        · walk_at "x"
        · intro h
          refine ev_isiB ?_ t2
          walk_at "x"
      · exact .inl rfl
    | num n =>
      apply w_ret
      · apply ev_weak
        apply ev_andV
        · exact ev_isiB (ev_weak (ev_var rfl)) t
        intro _
        apply ev_weak
        apply ev_andV (b := false)
        · walk_at "x"
        · intro h
          have h' : false = true := h
          cases h'
      · exact .inl rfl
    | cell p =>
      apply w_ret
      · apply ev_weak
        apply ev_andV
        · exact ev_isiB (ev_weak (ev_var rfl)) t
        intro _
        apply ev_weak
        apply ev_andV (b := false)
        · walk_at "x"
        · intro h
          have h' : false = true := h
          cases h'
      · exact .inl rfl
    | sum p q =>
      apply w_ret
      · apply ev_weak
        apply ev_andV
        · exact ev_isiB (ev_weak (ev_var rfl)) t
        intro _
        apply ev_weak
        apply ev_andV (b := false)
        · walk_at "x"
        · intro h
          have h' : false = true := h
          cases h'
      · exact .inl rfl
    | most p q =>
      apply w_ret
      · apply ev_weak
        apply ev_andV
        · exact ev_isiB (ev_weak (ev_var rfl)) t
        intro _
        apply ev_weak
        apply ev_andV (b := false)
        · walk_at "x"
        · intro h
          have h' : false = true := h
          cases h'
      · exact .inl rfl
    | add a b =>
      apply w_ret
      · apply ev_weak
        apply ev_andV
        · exact ev_isiB (ev_weak (ev_var rfl)) t
        intro _
        apply ev_weak
        apply ev_andV (b := false)
        · walk_at "x"
        · intro h
          have h' : false = true := h
          cases h'
      · exact .inl rfl
    | sub a b =>
      apply w_ret
      · apply ev_weak
        apply ev_andV
        · exact ev_isiB (ev_weak (ev_var rfl)) t
        intro _
        apply ev_weak
        apply ev_andV (b := false)
        · walk_at "x"
        · intro h
          have h' : false = true := h
          cases h'
      · exact .inl rfl
    | mul a b =>
      apply w_ret
      · apply ev_weak
        apply ev_andV
        · exact ev_isiB (ev_weak (ev_var rfl)) t
        intro _
        apply ev_weak
        apply ev_andV (b := false)
        · walk_at "x"
        · intro h
          have h' : false = true := h
          cases h'
      · exact .inl rfl
    | look a p q b =>
      apply w_ret
      · apply ev_weak
        apply ev_andV
        · exact ev_isiB (ev_weak (ev_var rfl)) t
        intro _
        apply ev_weak
        apply ev_andV (b := false)
        · walk_at "x"
        · intro h
          have h' : false = true := h
          cases h'
      · exact .inl rfl
theorem ec_isref {es : Es} {ta : TE} {p : Pt} {E : XK} (h : EvX K ta es p.d) : EvX K (tCall (sp__law_is_ref K) [] E (tCons ta tNil)) es (.bool (isRf p)) :=
  ev_callX (args := fun p : Pt => [p.d]) p (ea_cons h ea_nil) True.intro
/-- a part with its references moved -/
def shP (dn rt : Int) : Pt → Pt
  | .rf x => .rf (mv x dn rt)
  | .rl r => .rl (sh dn rt r)
  | p => p
theorem sh_parts (dn rt : Int) (r : Rl) : (sh dn rt r).parts = r.parts.map (shP dn rt) := by cases r <;> rfl
abbrev sp__law_moved (K : PySem.W.Frag) (n : Nat) : Sp := spF (α := Pt × Int × Int) K (fun a => [a.1.d, .int a.2.1, .int a.2.2]) (fun a => a.1.dep < n) (fun a => (shP a.2.1 a.2.2 a.1).d)
theorem ec_lmoved {n : Nat} {es : Es} {ta tb tc : TE} {p : Pt} {dn rt : Int} {E : XK} (h : EvX K ta es p.d) (h2 : EvX K tb es (.int dn)) (h3 : EvX K tc es (.int rt)) (hn : p.dep < n) : EvE K (tCall (sp__law_moved K n) [] E (tCons ta (tCons tb (tCons tc tNil)))) es (shP dn rt p).d :=
  ev_call (args := fun a : Pt × Int × Int => [a.1.d, PyData.int a.2.1, .int a.2.2]) (p, dn, rt) (ea_cons h (ea_cons h2 (ea_cons h3 ea_nil))) hn (Pt.imm_d _)
theorem none_moved (T : Top K mg w) : FnOk P w K mg base CX0 0 T.a__law_moved T.d__law_moved ["_law_part", "_law_down", "_law_right"] (sp__law_moved K 0) :=
  ⟨fun vs H Q E ⟨a, _, h, _⟩ => absurd h (Nat.not_lt_zero _), fun A outer s H args us vs Q E _ _ _ _ ⟨a, _, h, _⟩ => absurd h (Nat.not_lt_zero _)⟩
theorem ok_lmoved (T : Top K mg w) : ∀ n : Nat, FnOk P w K mg base CX0 (n + 1) T.a__law_moved T.d__law_moved ["_law_part", "_law_down", "_law_right"] (sp__law_moved K n)
  | 0 => (none_moved T).mono (Nat.zero_le _)
  | n + 1 => by
    have ih := ok_lmoved T n
    refine fn_val T.F__law_moved sc__law_moved (fun _ => rfl) fun cdv A outer s H E hr => ⟨_, B__law_moved T (ok_isref T) (by omega) ih (Nat.le_refl _) hr, fun a hp => ?_⟩
    obtain ⟨p, dn, rt⟩ := a
    have hp : p.dep < n + 1 := hp
    show Ws K _ [.dat p.d, .dat (.int dn), .dat (.int rt), .no] _
    apply w_seq
    refine w_if (eb_B (ec_isref (p := p) (ev_weak (ev_var rfl)))) (fun hb => ?_) (fun hb => ?_)
    · cases p with
      | rf x =>
        obtain ⟨r, c, rs, cs⟩ := x
        cases rs <;> cases cs <;> (apply w_ret; (walk_at "x"); (left; simp [shP, mv, Pt.d, Rf.d]))
      | _ => cases hb
    apply w_next
    apply w_seq
    cases p with
    | rf x => cases hb
    | s x =>
      refine w_if (eb_B (ev_isiB (ev_weak (ev_var rfl)) kb_str_tuple)) (fun h => nomatch h) (fun _ => ?_)
      apply w_next
      exact w_ret (ev_weak (ev_var rfl)) (.inl rfl)
    | i x =>
      refine w_if (eb_B (ev_isiB (ev_weak (ev_var rfl)) kb_int_tuple)) (fun h => nomatch h) (fun _ => ?_)
      apply w_next
      exact w_ret (ev_weak (ev_var rfl)) (.inl rfl)
    | b x =>
      refine w_if (eb_B (ev_isiB (ev_weak (ev_var rfl)) kb_bool_tuple)) (fun h => nomatch h) (fun _ => ?_)
      apply w_next
      exact w_ret (ev_weak (ev_var rfl)) (.inl rfl)
    | rl r =>
      have hp : r.dep < n + 1 := hp
      show Ws K _ [.dat r.d, .dat (.int dn), .dat (.int rt), .no] _
      refine w_if (eb_B (ev_isiB (ev_weak (ev_var rfl)) (kb_rl_tuple r))) (fun _ => ?_) (fun h => nomatch h)
      rw [Rl.d_parts]
      have e0 : (shP dn rt (.rl r)).d = .tuple ((r.parts.map (shP dn rt)).map Pt.d) := by
        show (sh dn rt r).d = _
        rw [Rl.d_parts, sh_parts]
      refine w_ret (d := .tuple ((r.parts.map (shP dn rt)).map Pt.d)) (ev_weak (ev_tupL (ev_fresh (ef_lcX _ (ei_tup (ev_var rfl)) ?_ (wipe_set (by decide)) ?_ ?_)))) (.inl (by rw [← e0]))
      · rw [List.length_map]
        exact Nat.le_trans r.parts_len (by decide)
      · rw [List.length_map, List.length_map, List.length_map]
      · intro i d q hd hq
        rw [List.getElem?_map] at hd
        obtain ⟨p, hp1, rfl⟩ := Option.map_eq_some_iff.mp hd
        rw [List.getElem?_map, List.getElem?_map, hp1] at hq
        have hq : some (shP dn rt p).d = some q := hq
        cases hq
        have hpd := r.parts_dep p (List.mem_of_getElem? hp1)
        refine ec_lmoved (p := p) (ev_weak (ev_var rfl)) (ev_weak (ev_var rfl)) (ev_weak (ev_var rfl)) (by omega)
abbrev sp__law_same (K : PySem.W.Frag) (n : Nat) : Sp := spF (α := Pt) K (fun p => [p.d, p.d]) (fun p => p.dep < n) (fun _ => .bool true)
theorem ec_same {n : Nat} {es : Es} {ta tb : TE} {p : Pt} {E : XK} (h : EvX K ta es p.d) (h2 : EvX K tb es p.d) (hn : p.dep < n) : EvE K (tCall (sp__law_same K n) [] E (tCons ta (tCons tb tNil))) es (.bool true) :=
  ev_call (args := fun p : Pt => [p.d, p.d]) p (ea_cons h (ea_cons h2 ea_nil)) hn rfl
theorem none_same (T : Top K mg w) : FnOk P w K mg base CX0 0 T.a__law_same T.d__law_same ["_law_found", "_law_due"] (sp__law_same K 0) :=
  ⟨fun vs H Q E ⟨a, _, h, _⟩ => absurd h (Nat.not_lt_zero _), fun A outer s H args us vs Q E _ _ _ _ ⟨a, _, h, _⟩ => absurd h (Nat.not_lt_zero _)⟩
theorem part_at {ps : List Pt} {i : Nat} (h : i < ps.length) : atI (ps.map Pt.d) (i : Nat) = some ps[i].d := by
  refine atI_nat ?_
  rw [List.getElem?_map, List.getElem?_eq_getElem h]
  rfl
theorem ok_same (T : Top K mg w) : ∀ n : Nat, FnOk P w K mg base CX0 (n + 1) T.a__law_same T.d__law_same ["_law_found", "_law_due"] (sp__law_same K n)
  | 0 => (none_same T).mono (Nat.zero_le _)
  | n + 1 => by
    have ih := ok_same T n
    refine fn_val T.F__law_same sc__law_same (fun _ => rfl) fun cdv A outer s H E hr => ⟨_, B__law_same T ih (Nat.le_refl _) hr, fun p hp => ?_⟩
    have hp : p.dep < n + 1 := hp
    show Ws K _ [.dat p.d, .dat p.d, .no] _
    have tup : (∃ ps : List Pt, p.d = .tuple (ps.map Pt.d) ∧ ps.length ≤ 5 ∧ ∀ q ∈ ps, q.dep < p.dep) ∨ (∃ x, p = .s x) ∨ (∃ x, p = .i x) ∨ (∃ x, p = .b x) := by
      cases p with
      | s x => exact .inr (.inl ⟨x, rfl⟩)
      | i x => exact .inr (.inr (.inl ⟨x, rfl⟩))
      | b x => exact .inr (.inr (.inr ⟨x, rfl⟩))
      | rf x => exact .inl ⟨x.parts, rfl, Nat.le_of_ble_eq_true rfl, by simp [Rf.parts, Pt.dep]⟩
      | rl r => exact .inl ⟨r.parts, r.d_parts, r.parts_len, r.parts_dep⟩
    apply w_seq
    rcases tup with ⟨ps, e, hl, hd⟩ | ⟨x, rfl⟩ | ⟨x, rfl⟩ | ⟨x, rfl⟩
    · rw [e]
      have ll : (ps.map Pt.d).length = ps.length := List.length_map _
      refine w_if (eb_B (ev_isiB (ev_weak (ev_var rfl)) kb_tuple_tuple)) (fun _ => ?_) (fun h => nomatch h)
      apply w_seq
      apply w_if
      · walk_at "b"
      · intro hb
        simp at hb
      intro _
      apply w_next
      apply w_seq
      refine w_forN (ei_rng1 (n := ((ps.map Pt.d).length : Nat)) ?_ ?_) (fun i e => ∃ y, e = [.dat (.tuple (ps.map Pt.d)), .dat (.tuple (ps.map Pt.d)), y]) ⟨_, rfl⟩ ?_ ?_
      · walk_at "a"
      · rw [ll]
        omega
      · rintro i d e' hdi ⟨y, rfl⟩
        rw [Int.toNat_natCast] at hdi
        have hi : i < ps.length := by
          have := (List.getElem?_eq_some_iff.mp hdi).1
          rw [rngD_len, ll] at this
          exact this
        rw [rngD_get (by rw [ll]; exact hi)] at hdi
        cases hdi
        rw [Int.zero_add]
        have h3 := part_at hi
        have h4 := hd _ (List.getElem_mem hi)
        apply w_if
        · apply eb_not
          apply eb_B
          apply ev_weak
          refine ec_same (p := ps[i]) ?_ ?_ (by omega)
          · walk_at "x"
          · walk_at "x"
        · intro h
          cases h
        · intro _
          apply w_next
          exact ⟨_, rfl⟩
      · rintro e' ⟨y, rfl⟩
        apply w_ret
        · walk_at "x"
        · exact .inl rfl
    · refine w_if (eb_B (ev_isiB (ev_weak (ev_var rfl)) kb_str_tuple)) (fun h => nomatch h) (fun _ => ?_)
      apply w_next
      apply w_seq
      apply w_if
      · walk_at "b"
      · intro h
        cases h
      intro _
      apply w_next
      apply w_seq
      apply w_if
      · walk_at "b"
      · intro h
        cases h
      intro _
      apply w_next
      apply w_ret
      · walk_at "x"
      · left
        simp
    · refine w_if (eb_B (ev_isiB (ev_weak (ev_var rfl)) kb_int_tuple)) (fun h => nomatch h) (fun _ => ?_)
      apply w_next
      apply w_seq
      apply w_if
      · walk_at "b"
      · intro h
        cases h
      intro _
      apply w_next
      apply w_seq
      apply w_if
      · walk_at "b"
      · intro _
        apply w_ret
        · walk_at "x"
        · left
          simp
      · intro h
        cases h
    · refine w_if (eb_B (ev_isiB (ev_weak (ev_var rfl)) kb_bool_tuple)) (fun h => nomatch h) (fun _ => ?_)
      apply w_next
      apply w_seq
      apply w_if
      · walk_at "b"
      · intro _
        apply w_ret
        · walk_at "x"
        · left
          simp
      · intro h
        cases h
end
end K03

namespace K03
open PySem PySem.Spec L2 Pu Pr
open Evl (Ex rLenS rMax2 rListS)
open PyProof.Rows (envOfC)
/-! own words of the walk -/
local macro_rules | `(tactic| walk_at "side") => `(tactic| first
  | rfl | exact at_m1 | exact at_m1' | exact at_m1'' | exact at_m2 | exact at_m2' | exact at_m3 | exact at0 | exact at1 | exact at2 | exact at3 | exact at4 | assumption | decide | omega | exact ⟨by decide, by decide⟩ | exact ⟨by omega, by omega⟩ | exact Or.inr ⟨by omega, by omega⟩ | exact Or.inl ⟨by omega, by omega⟩ | exact Or.inr ⟨by decide, by decide⟩)
local macro_rules | `(tactic| walk_at "ec") => `(tactic| fail)
local macro_rules | `(tactic| walk_at "fc") => `(tactic| fail)
local macro_rules | `(tactic| walk_at "tab") => `(tactic| assumption)
local macro_rules | `(tactic| walk_at "shape") => `(tactic| first | rfl | assumption)
local macro_rules | `(tactic| walk_at "e") => `(tactic| first
  | exact ev_int | exact ev_str | exact ev_bl | exact ev_non | exact ev_var rfl
  | (apply ev_ixO; (rfl); (walk_at "x"); (walk_at "side"))
  | (apply ev_ixT; (walk_at "e"); (walk_at "x"); (walk_at "side"))
  | (apply ev_ixL; (walk_at "e"); (walk_at "x"); (walk_at "side"))
  | (apply ev_I0; (walk_at "x"); (walk_at "x"); (rfl))
  | (apply ev_I0b; (walk_at "x"); (walk_at "x"); (rfl))
  | (apply ev_I; (walk_at "x"); (walk_at "x"); (rfl); (walk_at "side"))
  | (apply ev_neg; (walk_at "x"); (rfl))
  | (apply ev_eqI; (walk_at "x"); (walk_at "x"))
  | (apply ev_eqS; (walk_at "x"); (walk_at "x"))
  | (apply ev_eqB; (walk_at "x"); (walk_at "x"))
  | (apply ev_neI; (walk_at "x"); (walk_at "x"))
  | (apply ev_neS; (walk_at "x"); (walk_at "x"))
  | (apply ev_eqD; (walk_at "x"); (walk_at "x"); (walk_at "shape"); (walk_at "shape"))
  | (apply ev_neD; (walk_at "x"); (walk_at "x"); (walk_at "shape"); (walk_at "shape"))
  | (apply ev_andV; (walk_at "x"); (intro _; walk_at "x"))
  | (apply ev_orV; (walk_at "x"); (intro _; walk_at "x"))
  | (apply ev_notV; (walk_at "x"))
  | (apply ev_tup; (walk_at "s"); (exact Nat.le_of_ble_eq_true rfl))
  | (apply ev_slTb; (walk_at "e"); (walk_at "o"); (walk_at "o"); (rfl))
  | (apply ev_lenL; (walk_at "x"))
  | (apply ev_lenT; (walk_at "x"))
  | (apply ev_min2; (walk_at "x"); (walk_at "x"))
  | (apply ev_max2; (walk_at "x"); (walk_at "x"))
  | (apply ev_isi; (walk_at "x"); (first | exact kb_int_int | exact kb_int_bool | exact kb_int_str | exact kb_int_list | exact kb_int_tuple | exact kb_bool_int | exact kb_bool_bool | exact kb_bool_str | exact kb_bool_list | exact kb_bool_tuple | exact kb_str_int | exact kb_str_bool | exact kb_str_str | exact kb_str_list | exact kb_str_tuple | exact kb_list_int | exact kb_list_bool | exact kb_list_str | exact kb_list_list | exact kb_list_tuple | exact kb_tuple_int | exact kb_tuple_bool | exact kb_tuple_str | exact kb_tuple_list | exact kb_tuple_tuple | exact kb_NoneType_int | exact kb_NoneType_bool | exact kb_NoneType_str | exact kb_NoneType_list | exact kb_NoneType_tuple))
  | (apply ev_intB; (walk_at "x"))
  | (apply ev_ixD; (walk_at "x"); (walk_at "tab"))
  | (apply ev_isN; (walk_at "x"))
  | (apply ev_tupO; (rfl))
  | (apply ev_tupL; (walk_at "e"))
  | walk_at "ec"
  | (apply ev_fresh; (walk_at "f")))
local macro_rules | `(tactic| walk_at "f") => `(tactic| first
  | (apply ef_lst; (walk_at "s"); (exact Nat.le_of_ble_eq_true rfl))
  | (apply ef_catA; (walk_at "e"); (walk_at "e"); (walk_at "side"))
  | (apply ef_slO; (rfl); (walk_at "o"); (walk_at "o"))
  | (apply ef_slL; (walk_at "e"); (walk_at "o"); (walk_at "o"))
  | (apply ef_listT; (walk_at "e"))
  | (apply ef_listL; (walk_at "e"))
  | walk_at "fc")
local macro_rules | `(tactic| walk_at "x") => `(tactic| first
  | exact ev_varO rfl
  | (apply ev_weak; (walk_at "e")))
local macro_rules | `(tactic| walk_at "o") => `(tactic| first
  | exact eo_none
  | (apply eo_some; (walk_at "x")))
local macro_rules | `(tactic| walk_at "a") => `(tactic| first
  | exact ea_nil
  | (apply ea_cons; (walk_at "x"); (walk_at "a")))
local macro_rules | `(tactic| walk_at "s") => `(tactic| first
  | exact es_nil
  | (apply es_cons; (walk_at "e"); (walk_at "s")))
local macro_rules | `(tactic| walk_at "b") => `(tactic| first
  | exact eb_yes
  | (apply eb_test; (walk_at "x"))
  | (apply eb_B; (walk_at "x"))
  | (apply eb_truB; (walk_at "x"))
  | (apply eb_truL; (walk_at "x"))
  | (apply eb_truT; (walk_at "x"))
  | (apply eb_truI; (walk_at "x"))
  | (apply eb_not; (walk_at "b"))
  | (apply eb_and; (walk_at "b"); (intro _; walk_at "b"))
  | (apply eb_or; (walk_at "b"); (intro _; walk_at "b")))
section
variable {P : Program} {w : World} {K : PySem.W.Frag} {mg : Str → Option Value} {base : Heap}
theorem ec_shifted {es : Es} {ta tb tc : TE} {r : Rl} {dn rt : Int} {E : XK} (h : EvX K ta es r.d) (h2 : EvX K tb es (.int dn)) (h3 : EvX K tc es (.int rt)) (hz : r.size ≤ 1000) : EvE K (tCall (sp_shifted K) [] E (tCons ta (tCons tb (tCons tc tNil)))) es (sh dn rt r).d :=
  ev_call (args := fun a : Rl × Int × Int => [a.1.d, PyData.int a.2.1, .int a.2.2]) (r, dn, rt) (ea_cons h (ea_cons h2 (ea_cons h3 ea_nil))) hz (Rl.imm_d _)
theorem mv_back (x : Rf) (a b : Int) : mv (mv x a b) (0 - a) (0 - b) = x := by
  obtain ⟨r, c, rs, cs⟩ := x
  cases rs <;> cases cs <;> simp [mv] <;> omega
theorem sh_back (a b : Int) (r : Rl) : sh (0 - a) (0 - b) (sh a b r) = r := by
  induction r with
  | num n => rfl
  | cell p => simp only [sh, mv_back]
  | sum p q => simp only [sh, mv_back]
  | most p q => simp only [sh, mv_back]
  | add x y h1 h2 => simp only [sh, h1, h2]
  | sub x y h1 h2 => simp only [sh, h1, h2]
  | mul x y h1 h2 => simp only [sh, h1, h2]
  | pick x y z h1 h2 h3 => simp only [sh, h1, h2, h3]
  | look x p q y h1 h2 => simp only [sh, h1, h2, mv_back]
theorem sh_size (a b : Int) (r : Rl) : (sh a b r).size = r.size := by
  induction r with
  | num n => rfl
  | cell p => rfl
  | sum p q => rfl
  | most p q => rfl
  | add x y h1 h2 => simp only [sh, Rl.size, h1, h2]
  | sub x y h1 h2 => simp only [sh, Rl.size, h1, h2]
  | mul x y h1 h2 => simp only [sh, Rl.size, h1, h2]
  | pick x y z h1 h2 h3 => simp only [sh, Rl.size, h1, h2, h3]
  | look x p q y h1 h2 => simp only [sh, Rl.size, h1, h2]
theorem len_tot (st : List Rl) : st.length ≤ tot st := Rl.len_le st
local macro_rules | `(tactic| walk_at "ec") => `(tactic| first
  | (apply ec_cell; (walk_at "x"); (walk_at "x"); (walk_at "side")))
abbrev spLaw (K : PySem.W.Frag) : Sp := spF (α := List Int) K (fun ns => [.list (ns.map PyData.int)]) (fun ns => ns.length ≤ 63) (fun _ => .bool true)
theorem ok_law (T : Top K mg w) : FnOk P w K mg base CX0 42 T.a_law T.d_law ["_law_script"] (spLaw K) := by
  refine fn_val T.F_law sc_law (fun _ => rfl) fun cdv A outer s H E hr => ⟨_, B_law T (ok_cell T) (by decide) (ok_lmoved T 40) (by decide) (ok_pushed T) (by decide) (ok_same T 40) (by decide) (ok_shifted T) (by decide) hr, fun ns hp => ?_⟩
  show Ws K _ [.dat (.list (ns.map PyData.int)), .no, .no, .no, .no, .no, .no, .no] _
  have hc : cutD (ns.map PyData.int) (some 2) (some 26) = ((ns.drop 2).take 24).map PyData.int := by
    rw [show (some (2 : Int)) = some ((2 : Nat) : Int) from rfl, show (some (26 : Int)) = some ((26 : Nat) : Int) from rfl, cut_fix, List.map_take, List.map_drop]
  apply w_seq
  apply w_asgF
  · walk_at "f"
  apply w_seq
  refine w_forN (ei_list (ev_fresh (ev_isF (ef_slL (ev_var rfl) (eo_some ?_) (eo_some ?_)) hc))) (fun i e => ∃ st x, tot st ≤ i + 1 ∧ st ≠ [] ∧ e = [.dat (.list (ns.map PyData.int)), .own (st.map Rl.d), x, .no, .no, .no, .no, .no]) ⟨[.num 7], _, by decide, by simp, rfl⟩ ?_ ?_
  · walk_at "x"
  · walk_at "x"
  · rintro i d e hd ⟨st, x, h1, h2, rfl⟩
    have hi : i < 24 := by
      have q := (List.getElem?_eq_some_iff.mp hd).1
      rw [List.length_map, List.length_take] at q
      omega
    rw [List.getElem?_map] at hd
    obtain ⟨c, _, rfl⟩ := Option.map_eq_some_iff.mp hd
    have hl := len_tot st
    have ht := pushed_tot st c
    refine w_asgF (fc_pushed (c := c) (ev_varO rfl) (ev_weak (ev_var rfl)) (by omega)) ⟨pushed st c, .dat (.int c), by omega, ht.2, rfl⟩
  rintro e ⟨st, x, h1, h2, rfl⟩
  rw [List.length_map, List.length_take] at h1
  rcases List.eq_nil_or_concat st with rfl | ⟨s0, r, rfl⟩
  · exact absurd rfl h2
  rw [List.concat_eq_append] at h1 ⊢
  have m : (s0 ++ [r]).map Rl.d = s0.map Rl.d ++ [r.d] := List.map_append
  rw [m]
  have hr1 : r.size ≤ 25 := by
    rw [tot_app] at h1
    have : tot [r] = r.size := by simp [tot]
    omega
  have hr2 := r.dep_size
  apply w_seq
  apply w_asg
  · walk_at "e"
  apply w_seq
  apply w_asgF
  · walk_at "f"
  apply w_seq
  have h20 : 0 < (10 : Int) ^ (20 : Int).toNat := by decide
  refine w_forN (ei_rng1 (n := 2) ?_ (by decide)) (fun i e => ∃ (ss : List Int) (y z : Ent), ss.length = i ∧ e = [.dat (.list (ns.map PyData.int)), .own (s0.map Rl.d ++ [r.d]), x, .dat r.d, .own (ss.map PyData.int), y, .no, z]) ⟨[], _, _, rfl, rfl⟩ ?_ ?_
  · walk_at "a"
  · rintro i d e hd ⟨ss, y, z, h3, rfl⟩
    have hi : i < 2 := (List.getElem?_eq_some_iff.mp hd).1
    rw [show Int.toNat 2 = 2 from rfl, rngD_get hi] at hd
    cases hd
    have hk : (0 : Int) ≤ 0 + (i : Nat) := by omega
    apply w_seq
    apply w_asg
    · walk_at "e"
    apply w_seq
    apply w_if
    · walk_at "b"
    · intro hb
      apply w_asg
      · walk_at "e"
      refine w_append (i := 4) rfl (ev_var rfl) (by rw [List.length_map]; omega) ⟨ss ++ [_], _, _, by rw [List.length_append, h3]; rfl, by rw [List.map_append]; rfl⟩
    · intro hb
      apply w_next
      refine w_append (i := 4) rfl (ev_var rfl) (by rw [List.length_map]; omega) ⟨ss ++ [_], _, _, by rw [List.length_append, h3]; rfl, by rw [List.map_append]; rfl⟩
  rintro e ⟨ss, y, z, h3, rfl⟩
  obtain ⟨a, b, rfl⟩ : ∃ a b, ss = [a, b] := by
    match ss, h3 with
    | [a, b], _ => exact ⟨a, b, rfl⟩
  apply w_seq
  refine w_asg (ec_shifted (r := r) (dn := a) (rt := b) ?_ ?_ ?_ (by omega)) ?_
  · walk_at "x"
  · walk_at "x"
  · walk_at "x"
  have hd1 : (Pt.rl (sh a b r)).dep < 40 := by
    have q := (sh a b r).dep_size
    rw [sh_size] at q
    show (sh a b r).dep < 40
    omega
  apply w_seq
  apply w_if
  · apply eb_not
    apply eb_B
    apply ev_weak
    refine ec_same (p := .rl (sh a b r)) (ev_weak (ev_var rfl)) (ev_weak (ec_lmoved (p := .rl r) ?_ ?_ ?_ ?_)) hd1
    · exact ev_weak (ev_var rfl)
    · walk_at "x"
    · walk_at "x"
    · show r.dep < 40
      omega
  · intro hb
    cases hb
  intro _
  apply w_next
  refine w_ret (d := .bool true) (ev_weak (ec_same (p := .rl r) (ev_isX (ev_weak (ec_shifted (r := sh a b r) (dn := 0 - a) (rt := 0 - b) (ev_weak (ev_var rfl)) ?_ ?_ ?_)) ?_) (ev_weak (ev_var rfl)) ?_)) (.inl rfl)
  · walk_at "x"
  · walk_at "x"
  · rw [sh_size]
    omega
  · rw [sh_back]
    rfl
  · show r.dep < 40
    omega
end
end K03

namespace K03
open PySem PySem.Spec L2 Pu
open Evl (Ex rLenS rMax2 rListS)
open PyProof.Rows (envOfC)
theorem all_mk {l : PySem.W.OpenLaw} {w : World} {K : PySem.W.Frag} {h : Heap} {mg : Str → Option Value} {fa : Addr} (X : K.In h) (G : h.Ns mainGlobals mg) (hfa : mg "law" = some (.ref fa))
    {f0 : Addr} {od0 an0 : Option Addr} {sl0 : Array (Option Value)} {oc0 kV0 dc0 pm0 cd0 ct0 : Value}
    (a0 : PySem.W.nsIn K mainGlobals "inner_rules" = some (some (.ref f0))) (l0 : K.lookup f0 = some ⟨oc0, od0, .func (PySem.W.fnOf "inner_rules" "inner_rules" (defArgs s_inner_rules) (defBody s_inner_rules) (defScope s_inner_rules) .none kV0 dc0 pm0 an0 cd0 ct0), sl0⟩) (c0 : PySem.W.codeIn K cd0 "inner_rules" = true) (k0 : PySem.W.keepIn K (.ref f0) = true)
    {f1 : Addr} {od1 an1 : Option Addr} {sl1 : Array (Option Value)} {oc1 kV1 dc1 pm1 cd1 ct1 : Value}
    (a1 : PySem.W.nsIn K mainGlobals "outer_first" = some (some (.ref f1))) (l1 : K.lookup f1 = some ⟨oc1, od1, .func (PySem.W.fnOf "outer_first" "outer_first" (defArgs s_outer_first) (defBody s_outer_first) (defScope s_outer_first) .none kV1 dc1 pm1 an1 cd1 ct1), sl1⟩) (c1 : PySem.W.codeIn K cd1 "outer_first" = true) (k1 : PySem.W.keepIn K (.ref f1) = true)
    {f2 : Addr} {od2 an2 : Option Addr} {sl2 : Array (Option Value)} {oc2 kV2 dc2 pm2 cd2 ct2 : Value}
    (a2 : PySem.W.nsIn K mainGlobals "moved" = some (some (.ref f2))) (l2 : K.lookup f2 = some ⟨oc2, od2, .func (PySem.W.fnOf "moved" "moved" (defArgs s_moved) (defBody s_moved) (defScope s_moved) .none kV2 dc2 pm2 an2 cd2 ct2), sl2⟩) (c2 : PySem.W.codeIn K cd2 "moved" = true) (k2 : PySem.W.keepIn K (.ref f2) = true)
    {f3 : Addr} {od3 an3 : Option Addr} {sl3 : Array (Option Value)} {oc3 kV3 dc3 pm3 cd3 ct3 : Value}
    (a3 : PySem.W.nsIn K mainGlobals "shifted" = some (some (.ref f3))) (l3 : K.lookup f3 = some ⟨oc3, od3, .func (PySem.W.fnOf "shifted" "shifted" (defArgs s_shifted) (defBody s_shifted) (defScope s_shifted) .none kV3 dc3 pm3 an3 cd3 ct3), sl3⟩) (c3 : PySem.W.codeIn K cd3 "shifted" = true) (k3 : PySem.W.keepIn K (.ref f3) = true)
    {f4 : Addr} {od4 an4 : Option Addr} {sl4 : Array (Option Value)} {oc4 kV4 dc4 pm4 cd4 ct4 : Value}
    (a4 : PySem.W.nsIn K mainGlobals "_law_cell_at" = some (some (.ref f4))) (l4 : K.lookup f4 = some ⟨oc4, od4, .func (PySem.W.fnOf "_law_cell_at" "_law_cell_at" (defArgs s__law_cell_at) (defBody s__law_cell_at) (defScope s__law_cell_at) .none kV4 dc4 pm4 an4 cd4 ct4), sl4⟩) (c4 : PySem.W.codeIn K cd4 "_law_cell_at" = true) (k4 : PySem.W.keepIn K (.ref f4) = true)
    {f5 : Addr} {od5 an5 : Option Addr} {sl5 : Array (Option Value)} {oc5 kV5 dc5 pm5 cd5 ct5 : Value}
    (a5 : PySem.W.nsIn K mainGlobals "_law_ref_by" = some (some (.ref f5))) (l5 : K.lookup f5 = some ⟨oc5, od5, .func (PySem.W.fnOf "_law_ref_by" "_law_ref_by" (defArgs s__law_ref_by) (defBody s__law_ref_by) (defScope s__law_ref_by) .none kV5 dc5 pm5 an5 cd5 ct5), sl5⟩) (c5 : PySem.W.codeIn K cd5 "_law_ref_by" = true) (k5 : PySem.W.keepIn K (.ref f5) = true)
    {f6 : Addr} {od6 an6 : Option Addr} {sl6 : Array (Option Value)} {oc6 kV6 dc6 pm6 cd6 ct6 : Value}
    (a6 : PySem.W.nsIn K mainGlobals "_law_leaf_by" = some (some (.ref f6))) (l6 : K.lookup f6 = some ⟨oc6, od6, .func (PySem.W.fnOf "_law_leaf_by" "_law_leaf_by" (defArgs s__law_leaf_by) (defBody s__law_leaf_by) (defScope s__law_leaf_by) .none kV6 dc6 pm6 an6 cd6 ct6), sl6⟩) (c6 : PySem.W.codeIn K cd6 "_law_leaf_by" = true) (k6 : PySem.W.keepIn K (.ref f6) = true)
    {f7 : Addr} {od7 an7 : Option Addr} {sl7 : Array (Option Value)} {oc7 kV7 dc7 pm7 cd7 ct7 : Value}
    (a7 : PySem.W.nsIn K mainGlobals "_law_pushed" = some (some (.ref f7))) (l7 : K.lookup f7 = some ⟨oc7, od7, .func (PySem.W.fnOf "_law_pushed" "_law_pushed" (defArgs s__law_pushed) (defBody s__law_pushed) (defScope s__law_pushed) .none kV7 dc7 pm7 an7 cd7 ct7), sl7⟩) (c7 : PySem.W.codeIn K cd7 "_law_pushed" = true) (k7 : PySem.W.keepIn K (.ref f7) = true)
    {f8 : Addr} {od8 an8 : Option Addr} {sl8 : Array (Option Value)} {oc8 kV8 dc8 pm8 cd8 ct8 : Value}
    (a8 : PySem.W.nsIn K mainGlobals "_law_is_ref" = some (some (.ref f8))) (l8 : K.lookup f8 = some ⟨oc8, od8, .func (PySem.W.fnOf "_law_is_ref" "_law_is_ref" (defArgs s__law_is_ref) (defBody s__law_is_ref) (defScope s__law_is_ref) .none kV8 dc8 pm8 an8 cd8 ct8), sl8⟩) (c8 : PySem.W.codeIn K cd8 "_law_is_ref" = true) (k8 : PySem.W.keepIn K (.ref f8) = true)
    {f9 : Addr} {od9 an9 : Option Addr} {sl9 : Array (Option Value)} {oc9 kV9 dc9 pm9 cd9 ct9 : Value}
    (a9 : PySem.W.nsIn K mainGlobals "_law_moved" = some (some (.ref f9))) (l9 : K.lookup f9 = some ⟨oc9, od9, .func (PySem.W.fnOf "_law_moved" "_law_moved" (defArgs s__law_moved) (defBody s__law_moved) (defScope s__law_moved) .none kV9 dc9 pm9 an9 cd9 ct9), sl9⟩) (c9 : PySem.W.codeIn K cd9 "_law_moved" = true) (k9 : PySem.W.keepIn K (.ref f9) = true)
    {f10 : Addr} {od10 an10 : Option Addr} {sl10 : Array (Option Value)} {oc10 kV10 dc10 pm10 cd10 ct10 : Value}
    (a10 : PySem.W.nsIn K mainGlobals "_law_same" = some (some (.ref f10))) (l10 : K.lookup f10 = some ⟨oc10, od10, .func (PySem.W.fnOf "_law_same" "_law_same" (defArgs s__law_same) (defBody s__law_same) (defScope s__law_same) .none kV10 dc10 pm10 an10 cd10 ct10), sl10⟩) (c10 : PySem.W.codeIn K cd10 "_law_same" = true) (k10 : PySem.W.keepIn K (.ref f10) = true)
    {f11 : Addr} {od11 an11 : Option Addr} {sl11 : Array (Option Value)} {oc11 kV11 dc11 pm11 cd11 ct11 : Value}
    (a11 : PySem.W.nsIn K mainGlobals "law" = some (some (.ref f11))) (l11 : K.lookup f11 = some ⟨oc11, od11, .func (PySem.W.fnOf "law" "law" (defArgs s_law) (defBody s_law) (defScope s_law) .none kV11 dc11 pm11 an11 cd11 ct11), sl11⟩) (c11 : PySem.W.codeIn K cd11 "law" = true) (k11 : PySem.W.keepIn K (.ref f11) = true)
    (z_bool : PySem.W.nsIn K mainGlobals "bool" = some none)
    (z_int : PySem.W.nsIn K mainGlobals "int" = some none)
    (z_isinstance : PySem.W.nsIn K mainGlobals "isinstance" = some none)
    (z_len : PySem.W.nsIn K mainGlobals "len" = some none)
    (z_list : PySem.W.nsIn K mainGlobals "list" = some none)
    (z_range : PySem.W.nsIn K mainGlobals "range" = some none)
    (z_reversed : PySem.W.nsIn K mainGlobals "reversed" = some none)
    (z_str : PySem.W.nsIn K mainGlobals "str" = some none)
    (z_tuple : PySem.W.nsIn K mainGlobals "tuple" = some none)
    {r0 : Addr} {es0 : Array DictEntry} {en0 : Nat} (ra0 : PySem.W.nsIn K mainGlobals "RULES_AT" = some (some (.ref r0))) (rl0 : K.lookup r0 = some ⟨.type "dict", none, .dict es0 en0, #[]⟩) (rk0 : PySem.W.KeysLit w.params es0.toList)
    {t0_num : Addr} {ti0_num : Array Value} {tn0_num : Nat} {td0_num : Option Addr} {ts0_num : Array (Option Value)} (te0_num : PySem.W.nsIn K r0 "num" = some (some (.ref t0_num))) (tl0_num : K.lookup t0_num = some ⟨.type "tuple", td0_num, .seq ti0_num tn0_num, ts0_num⟩) (tz0_num : ti0_num.size ≤ sizeLine) (tv0_num : Vals (([] : List Int).map V.int) ti0_num.toList)
    {t0_cell : Addr} {ti0_cell : Array Value} {tn0_cell : Nat} {td0_cell : Option Addr} {ts0_cell : Array (Option Value)} (te0_cell : PySem.W.nsIn K r0 "cell" = some (some (.ref t0_cell))) (tl0_cell : K.lookup t0_cell = some ⟨.type "tuple", td0_cell, .seq ti0_cell tn0_cell, ts0_cell⟩) (tz0_cell : ti0_cell.size ≤ sizeLine) (tv0_cell : Vals (([] : List Int).map V.int) ti0_cell.toList)
    {t0_add : Addr} {ti0_add : Array Value} {tn0_add : Nat} {td0_add : Option Addr} {ts0_add : Array (Option Value)} (te0_add : PySem.W.nsIn K r0 "add" = some (some (.ref t0_add))) (tl0_add : K.lookup t0_add = some ⟨.type "tuple", td0_add, .seq ti0_add tn0_add, ts0_add⟩) (tz0_add : ti0_add.size ≤ sizeLine) (tv0_add : Vals (([1, 2] : List Int).map V.int) ti0_add.toList)
    {t0_sub : Addr} {ti0_sub : Array Value} {tn0_sub : Nat} {td0_sub : Option Addr} {ts0_sub : Array (Option Value)} (te0_sub : PySem.W.nsIn K r0 "sub" = some (some (.ref t0_sub))) (tl0_sub : K.lookup t0_sub = some ⟨.type "tuple", td0_sub, .seq ti0_sub tn0_sub, ts0_sub⟩) (tz0_sub : ti0_sub.size ≤ sizeLine) (tv0_sub : Vals (([1, 2] : List Int).map V.int) ti0_sub.toList)
    {t0_mul : Addr} {ti0_mul : Array Value} {tn0_mul : Nat} {td0_mul : Option Addr} {ts0_mul : Array (Option Value)} (te0_mul : PySem.W.nsIn K r0 "mul" = some (some (.ref t0_mul))) (tl0_mul : K.lookup t0_mul = some ⟨.type "tuple", td0_mul, .seq ti0_mul tn0_mul, ts0_mul⟩) (tz0_mul : ti0_mul.size ≤ sizeLine) (tv0_mul : Vals (([1, 2] : List Int).map V.int) ti0_mul.toList)
    {t0_pick : Addr} {ti0_pick : Array Value} {tn0_pick : Nat} {td0_pick : Option Addr} {ts0_pick : Array (Option Value)} (te0_pick : PySem.W.nsIn K r0 "pick" = some (some (.ref t0_pick))) (tl0_pick : K.lookup t0_pick = some ⟨.type "tuple", td0_pick, .seq ti0_pick tn0_pick, ts0_pick⟩) (tz0_pick : ti0_pick.size ≤ sizeLine) (tv0_pick : Vals (([1, 2, 3] : List Int).map V.int) ti0_pick.toList)
    {t0_sum : Addr} {ti0_sum : Array Value} {tn0_sum : Nat} {td0_sum : Option Addr} {ts0_sum : Array (Option Value)} (te0_sum : PySem.W.nsIn K r0 "sum" = some (some (.ref t0_sum))) (tl0_sum : K.lookup t0_sum = some ⟨.type "tuple", td0_sum, .seq ti0_sum tn0_sum, ts0_sum⟩) (tz0_sum : ti0_sum.size ≤ sizeLine) (tv0_sum : Vals (([] : List Int).map V.int) ti0_sum.toList)
    {t0_most : Addr} {ti0_most : Array Value} {tn0_most : Nat} {td0_most : Option Addr} {ts0_most : Array (Option Value)} (te0_most : PySem.W.nsIn K r0 "most" = some (some (.ref t0_most))) (tl0_most : K.lookup t0_most = some ⟨.type "tuple", td0_most, .seq ti0_most tn0_most, ts0_most⟩) (tz0_most : ti0_most.size ≤ sizeLine) (tv0_most : Vals (([] : List Int).map V.int) ti0_most.toList)
    {t0_look : Addr} {ti0_look : Array Value} {tn0_look : Nat} {td0_look : Option Addr} {ts0_look : Array (Option Value)} (te0_look : PySem.W.nsIn K r0 "look" = some (some (.ref t0_look))) (tl0_look : K.lookup t0_look = some ⟨.type "tuple", td0_look, .seq ti0_look tn0_look, ts0_look⟩) (tz0_look : ti0_look.size ≤ sizeLine) (tv0_look : Vals (([1, 4] : List Int).map V.int) ti0_look.toList)
    {r1 : Addr} {es1 : Array DictEntry} {en1 : Nat} (ra1 : PySem.W.nsIn K mainGlobals "REFERENCES_AT" = some (some (.ref r1))) (rl1 : K.lookup r1 = some ⟨.type "dict", none, .dict es1 en1, #[]⟩) (rk1 : PySem.W.KeysLit w.params es1.toList)
    {t1_num : Addr} {ti1_num : Array Value} {tn1_num : Nat} {td1_num : Option Addr} {ts1_num : Array (Option Value)} (te1_num : PySem.W.nsIn K r1 "num" = some (some (.ref t1_num))) (tl1_num : K.lookup t1_num = some ⟨.type "tuple", td1_num, .seq ti1_num tn1_num, ts1_num⟩) (tz1_num : ti1_num.size ≤ sizeLine) (tv1_num : Vals (([] : List Int).map V.int) ti1_num.toList)
    {t1_cell : Addr} {ti1_cell : Array Value} {tn1_cell : Nat} {td1_cell : Option Addr} {ts1_cell : Array (Option Value)} (te1_cell : PySem.W.nsIn K r1 "cell" = some (some (.ref t1_cell))) (tl1_cell : K.lookup t1_cell = some ⟨.type "tuple", td1_cell, .seq ti1_cell tn1_cell, ts1_cell⟩) (tz1_cell : ti1_cell.size ≤ sizeLine) (tv1_cell : Vals (([1] : List Int).map V.int) ti1_cell.toList)
    {t1_add : Addr} {ti1_add : Array Value} {tn1_add : Nat} {td1_add : Option Addr} {ts1_add : Array (Option Value)} (te1_add : PySem.W.nsIn K r1 "add" = some (some (.ref t1_add))) (tl1_add : K.lookup t1_add = some ⟨.type "tuple", td1_add, .seq ti1_add tn1_add, ts1_add⟩) (tz1_add : ti1_add.size ≤ sizeLine) (tv1_add : Vals (([] : List Int).map V.int) ti1_add.toList)
    {t1_sub : Addr} {ti1_sub : Array Value} {tn1_sub : Nat} {td1_sub : Option Addr} {ts1_sub : Array (Option Value)} (te1_sub : PySem.W.nsIn K r1 "sub" = some (some (.ref t1_sub))) (tl1_sub : K.lookup t1_sub = some ⟨.type "tuple", td1_sub, .seq ti1_sub tn1_sub, ts1_sub⟩) (tz1_sub : ti1_sub.size ≤ sizeLine) (tv1_sub : Vals (([] : List Int).map V.int) ti1_sub.toList)
    {t1_mul : Addr} {ti1_mul : Array Value} {tn1_mul : Nat} {td1_mul : Option Addr} {ts1_mul : Array (Option Value)} (te1_mul : PySem.W.nsIn K r1 "mul" = some (some (.ref t1_mul))) (tl1_mul : K.lookup t1_mul = some ⟨.type "tuple", td1_mul, .seq ti1_mul tn1_mul, ts1_mul⟩) (tz1_mul : ti1_mul.size ≤ sizeLine) (tv1_mul : Vals (([] : List Int).map V.int) ti1_mul.toList)
    {t1_pick : Addr} {ti1_pick : Array Value} {tn1_pick : Nat} {td1_pick : Option Addr} {ts1_pick : Array (Option Value)} (te1_pick : PySem.W.nsIn K r1 "pick" = some (some (.ref t1_pick))) (tl1_pick : K.lookup t1_pick = some ⟨.type "tuple", td1_pick, .seq ti1_pick tn1_pick, ts1_pick⟩) (tz1_pick : ti1_pick.size ≤ sizeLine) (tv1_pick : Vals (([] : List Int).map V.int) ti1_pick.toList)
    {t1_sum : Addr} {ti1_sum : Array Value} {tn1_sum : Nat} {td1_sum : Option Addr} {ts1_sum : Array (Option Value)} (te1_sum : PySem.W.nsIn K r1 "sum" = some (some (.ref t1_sum))) (tl1_sum : K.lookup t1_sum = some ⟨.type "tuple", td1_sum, .seq ti1_sum tn1_sum, ts1_sum⟩) (tz1_sum : ti1_sum.size ≤ sizeLine) (tv1_sum : Vals (([1, 2] : List Int).map V.int) ti1_sum.toList)
    {t1_most : Addr} {ti1_most : Array Value} {tn1_most : Nat} {td1_most : Option Addr} {ts1_most : Array (Option Value)} (te1_most : PySem.W.nsIn K r1 "most" = some (some (.ref t1_most))) (tl1_most : K.lookup t1_most = some ⟨.type "tuple", td1_most, .seq ti1_most tn1_most, ts1_most⟩) (tz1_most : ti1_most.size ≤ sizeLine) (tv1_most : Vals (([1, 2] : List Int).map V.int) ti1_most.toList)
    {t1_look : Addr} {ti1_look : Array Value} {tn1_look : Nat} {td1_look : Option Addr} {ts1_look : Array (Option Value)} (te1_look : PySem.W.nsIn K r1 "look" = some (some (.ref t1_look))) (tl1_look : K.lookup t1_look = some ⟨.type "tuple", td1_look, .seq ti1_look tn1_look, ts1_look⟩) (tz1_look : ti1_look.size ≤ sizeLine) (tv1_look : Vals (([2, 3] : List Int).map V.int) ti1_look.toList)
    : ∃ fd : FuncData, (∀ (s : Shared) (v : Value), BindsTo s fd ⟨[v], []⟩ [("_law_script", v)]) ∧ ∀ base : Heap, K.In base → base.Ns mainGlobals mg → FnOk l.prog w K mg base CX0 42 fa fd ["_law_script"] (spLaw K) := by
  have e := hfa.symm.trans (PySem.W.mg_of X G a11)
  cases e
  refine ⟨PySem.W.fnOf "law" "law" (defArgs s_law) (defBody s_law) (defScope s_law) .none kV11 dc11 pm11 an11 cd11 ct11, fun s v => .of_eq rfl, fun base _ _ => ok_law ({
    a_inner_rules := _, d_inner_rules := _, F_inner_rules := fun_mk (st := s_inner_rules) l0 c0 k0, b_inner_rules := (fun_mk (st := s_inner_rules) l0 c0 k0).binds (ps := ["rule"]) fun _ _ _ _ _ _ us hl => match us, hl with | [_], _ => rfl, m_inner_rules := PySem.W.mg_of X G a0,
    a_outer_first := _, d_outer_first := _, F_outer_first := fun_mk (st := s_outer_first) l1 c1 k1, b_outer_first := (fun_mk (st := s_outer_first) l1 c1 k1).binds (ps := ["rule"]) fun _ _ _ _ _ _ us hl => match us, hl with | [_], _ => rfl, m_outer_first := PySem.W.mg_of X G a1,
    a_moved := _, d_moved := _, F_moved := fun_mk (st := s_moved) l2 c2 k2, b_moved := (fun_mk (st := s_moved) l2 c2 k2).binds (ps := ["reference", "down", "right"]) fun _ _ _ _ _ _ us hl => match us, hl with | [_, _, _], _ => rfl, m_moved := PySem.W.mg_of X G a2,
    a_shifted := _, d_shifted := _, F_shifted := fun_mk (st := s_shifted) l3 c3 k3, b_shifted := (fun_mk (st := s_shifted) l3 c3 k3).binds (ps := ["rule", "down", "right"]) fun _ _ _ _ _ _ us hl => match us, hl with | [_, _, _], _ => rfl, m_shifted := PySem.W.mg_of X G a3,
    a__law_cell_at := _, d__law_cell_at := _, F__law_cell_at := fun_mk (st := s__law_cell_at) l4 c4 k4, b__law_cell_at := (fun_mk (st := s__law_cell_at) l4 c4 k4).binds (ps := ["_law_script", "_law_k"]) fun _ _ _ _ _ _ us hl => match us, hl with | [_, _], _ => rfl, m__law_cell_at := PySem.W.mg_of X G a4,
    a__law_ref_by := _, d__law_ref_by := _, F__law_ref_by := fun_mk (st := s__law_ref_by) l5 c5 k5, b__law_ref_by := (fun_mk (st := s__law_ref_by) l5 c5 k5).binds (ps := ["_law_cell"]) fun _ _ _ _ _ _ us hl => match us, hl with | [_], _ => rfl, m__law_ref_by := PySem.W.mg_of X G a5,
    a__law_leaf_by := _, d__law_leaf_by := _, F__law_leaf_by := fun_mk (st := s__law_leaf_by) l6 c6 k6, b__law_leaf_by := (fun_mk (st := s__law_leaf_by) l6 c6 k6).binds (ps := ["_law_cell"]) fun _ _ _ _ _ _ us hl => match us, hl with | [_], _ => rfl, m__law_leaf_by := PySem.W.mg_of X G a6,
    a__law_pushed := _, d__law_pushed := _, F__law_pushed := fun_mk (st := s__law_pushed) l7 c7 k7, b__law_pushed := (fun_mk (st := s__law_pushed) l7 c7 k7).binds (ps := ["_law_stack", "_law_cell"]) fun _ _ _ _ _ _ us hl => match us, hl with | [_, _], _ => rfl, m__law_pushed := PySem.W.mg_of X G a7,
    a__law_is_ref := _, d__law_is_ref := _, F__law_is_ref := fun_mk (st := s__law_is_ref) l8 c8 k8, b__law_is_ref := (fun_mk (st := s__law_is_ref) l8 c8 k8).binds (ps := ["_law_part"]) fun _ _ _ _ _ _ us hl => match us, hl with | [_], _ => rfl, m__law_is_ref := PySem.W.mg_of X G a8,
    a__law_moved := _, d__law_moved := _, F__law_moved := fun_mk (st := s__law_moved) l9 c9 k9, b__law_moved := (fun_mk (st := s__law_moved) l9 c9 k9).binds (ps := ["_law_part", "_law_down", "_law_right"]) fun _ _ _ _ _ _ us hl => match us, hl with | [_, _, _], _ => rfl, m__law_moved := PySem.W.mg_of X G a9,
    a__law_same := _, d__law_same := _, F__law_same := fun_mk (st := s__law_same) l10 c10 k10, b__law_same := (fun_mk (st := s__law_same) l10 c10 k10).binds (ps := ["_law_found", "_law_due"]) fun _ _ _ _ _ _ us hl => match us, hl with | [_, _], _ => rfl, m__law_same := PySem.W.mg_of X G a10,
    a_law := _, d_law := _, F_law := fun_mk (st := s_law) l11 c11 k11, b_law := (fun_mk (st := s_law) l11 c11 k11).binds (ps := ["_law_script"]) fun _ _ _ _ _ _ us hl => match us, hl with | [_], _ => rfl, m_law := PySem.W.mg_of X G a11,
    z_bool := PySem.W.mg_none_of X G z_bool,
    z_int := PySem.W.mg_none_of X G z_int,
    z_isinstance := PySem.W.mg_none_of X G z_isinstance,
    z_len := PySem.W.mg_none_of X G z_len,
    z_list := PySem.W.mg_none_of X G z_list,
    z_range := PySem.W.mg_none_of X G z_range,
    z_reversed := PySem.W.mg_none_of X G z_reversed,
    z_str := PySem.W.mg_none_of X G z_str,
    z_tuple := PySem.W.mg_none_of X G z_tuple,
    r_RULES_AT := r0, m_RULES_AT := PySem.W.mg_of X G ra0,
    D_RULES_AT_num := dtab_mk rl0 rk0 te0_num tl0_num tz0_num tv0_num,
    D_RULES_AT_cell := dtab_mk rl0 rk0 te0_cell tl0_cell tz0_cell tv0_cell,
    D_RULES_AT_add := dtab_mk rl0 rk0 te0_add tl0_add tz0_add tv0_add,
    D_RULES_AT_sub := dtab_mk rl0 rk0 te0_sub tl0_sub tz0_sub tv0_sub,
    D_RULES_AT_mul := dtab_mk rl0 rk0 te0_mul tl0_mul tz0_mul tv0_mul,
    D_RULES_AT_pick := dtab_mk rl0 rk0 te0_pick tl0_pick tz0_pick tv0_pick,
    D_RULES_AT_sum := dtab_mk rl0 rk0 te0_sum tl0_sum tz0_sum tv0_sum,
    D_RULES_AT_most := dtab_mk rl0 rk0 te0_most tl0_most tz0_most tv0_most,
    D_RULES_AT_look := dtab_mk rl0 rk0 te0_look tl0_look tz0_look tv0_look,
    r_REFERENCES_AT := r1, m_REFERENCES_AT := PySem.W.mg_of X G ra1,
    D_REFERENCES_AT_num := dtab_mk rl1 rk1 te1_num tl1_num tz1_num tv1_num,
    D_REFERENCES_AT_cell := dtab_mk rl1 rk1 te1_cell tl1_cell tz1_cell tv1_cell,
    D_REFERENCES_AT_add := dtab_mk rl1 rk1 te1_add tl1_add tz1_add tv1_add,
    D_REFERENCES_AT_sub := dtab_mk rl1 rk1 te1_sub tl1_sub tz1_sub tv1_sub,
    D_REFERENCES_AT_mul := dtab_mk rl1 rk1 te1_mul tl1_mul tz1_mul tv1_mul,
    D_REFERENCES_AT_pick := dtab_mk rl1 rk1 te1_pick tl1_pick tz1_pick tv1_pick,
    D_REFERENCES_AT_sum := dtab_mk rl1 rk1 te1_sum tl1_sum tz1_sum tv1_sum,
    D_REFERENCES_AT_most := dtab_mk rl1 rk1 te1_most tl1_most tz1_most tv1_most,
    D_REFERENCES_AT_look := dtab_mk rl1 rk1 te1_look tl1_look tz1_look tv1_look } : Top K mg w)⟩
end K03
open PySem PySem.W PyProof.Rows
set_option maxRecDepth 100000 in
set_option maxHeartbeats 0 in
theorem PySem.Challenge.cw_rulesheet_k03_shifted_holds : PySem.Challenge.rw_rulesheet_k03_shifted.Holds := by
  w_on; o_law; k_head; (case hw => w_witness2)
  k_fill
  refine L2.walk_of (l := PySem.Challenge.rw_rulesheet_k03_shifted) (n := 63) (k := 42) (x := "_law_script") (CX := fun _ => L2.CX0) (sp := fun w => K03.spLaw _) rfl (by decide) rfl ⟨rfl, by decide, by decide⟩ (fun w h Y => PySem.W.kIn_of Y) ?F (fun _ H a ns hl _ hS => ⟨ns, .cons (.lst hS Pu.dpa_mkInts) .nil, hl, fun v H2 _ hv => Pu.dp_bl hv⟩) (fun _ _ _ _ _ h => h)
  case F =>
    intro w mg fa h KX G hmg
    refine' K03.all_mk KX G hmg ?a0 ?l0 ?c0 ?k0 ?a1 ?l1 ?c1 ?k1 ?a2 ?l2 ?c2 ?k2 ?a3 ?l3 ?c3 ?k3 ?a4 ?l4 ?c4 ?k4 ?a5 ?l5 ?c5 ?k5 ?a6 ?l6 ?c6 ?k6 ?a7 ?l7 ?c7 ?k7 ?a8 ?l8 ?c8 ?k8 ?a9 ?l9 ?c9 ?k9 ?a10 ?l10 ?c10 ?k10 ?a11 ?l11 ?c11 ?k11 ?z_bool ?z_int ?z_isinstance ?z_len ?z_list ?z_range ?z_reversed ?z_str ?z_tuple ?ra0 ?rl0 ?rk0 ?te0_num ?tl0_num ?tz0_num ?tv0_num ?te0_cell ?tl0_cell ?tz0_cell ?tv0_cell ?te0_add ?tl0_add ?tz0_add ?tv0_add ?te0_sub ?tl0_sub ?tz0_sub ?tv0_sub ?te0_mul ?tl0_mul ?tz0_mul ?tv0_mul ?te0_pick ?tl0_pick ?tz0_pick ?tv0_pick ?te0_sum ?tl0_sum ?tz0_sum ?tv0_sum ?te0_most ?tl0_most ?tz0_most ?tv0_most ?te0_look ?tl0_look ?tz0_look ?tv0_look ?ra1 ?rl1 ?rk1 ?te1_num ?tl1_num ?tz1_num ?tv1_num ?te1_cell ?tl1_cell ?tz1_cell ?tv1_cell ?te1_add ?tl1_add ?tz1_add ?tv1_add ?te1_sub ?tl1_sub ?tz1_sub ?tv1_sub ?te1_mul ?tl1_mul ?tz1_mul ?tv1_mul ?te1_pick ?tl1_pick ?tz1_pick ?tv1_pick ?te1_sum ?tl1_sum ?tz1_sum ?tv1_sum ?te1_most ?tl1_most ?tz1_most ?tv1_most ?te1_look ?tl1_look ?tz1_look ?tv1_look
    (case a0 => k_is)
    (case l0 => k_is)
    (case c0 => k_is)
    (case k0 => k_is)
    (case a1 => k_is)
    (case l1 => k_is)
    (case c1 => k_is)
    (case k1 => k_is)
    (case a2 => k_is)
    (case l2 => k_is)
    (case c2 => k_is)
    (case k2 => k_is)
    (case a3 => k_is)
    (case l3 => k_is)
    (case c3 => k_is)
    (case k3 => k_is)
    (case a4 => k_is)
    (case l4 => k_is)
    (case c4 => k_is)
    (case k4 => k_is)
    (case a5 => k_is)
    (case l5 => k_is)
    (case c5 => k_is)
    (case k5 => k_is)
    (case a6 => k_is)
    (case l6 => k_is)
    (case c6 => k_is)
    (case k6 => k_is)
    (case a7 => k_is)
    (case l7 => k_is)
    (case c7 => k_is)
    (case k7 => k_is)
    (case a8 => k_is)
    (case l8 => k_is)
    (case c8 => k_is)
    (case k8 => k_is)
    (case a9 => k_is)
    (case l9 => k_is)
    (case c9 => k_is)
    (case k9 => k_is)
    (case a10 => k_is)
    (case l10 => k_is)
    (case c10 => k_is)
    (case k10 => k_is)
    (case a11 => k_is)
    (case l11 => k_is)
    (case c11 => k_is)
    (case k11 => k_is)
    (case z_bool => k_is)
    (case z_int => k_is)
    (case z_isinstance => k_is)
    (case z_len => k_is)
    (case z_list => k_is)
    (case z_range => k_is)
    (case z_reversed => k_is)
    (case z_str => k_is)
    (case z_tuple => k_is)
    (case ra0 => k_is)
    (case rl0 => k_is)
    (case rk0 => k_keys)
    (case te0_num => k_is)
    (case tl0_num => k_is)
    (case tz0_num => exact Nat.le_of_ble_eq_true rfl)
    (case tv0_num => exact .nil)
    (case te0_cell => k_is)
    (case tl0_cell => k_is)
    (case tz0_cell => exact Nat.le_of_ble_eq_true rfl)
    (case tv0_cell => exact .nil)
    (case te0_add => k_is)
    (case tl0_add => k_is)
    (case tz0_add => exact Nat.le_of_ble_eq_true rfl)
    (case tv0_add => exact (.cons ⟨_, rfl⟩ (.cons ⟨_, rfl⟩ .nil)))
    (case te0_sub => k_is)
    (case tl0_sub => k_is)
    (case tz0_sub => exact Nat.le_of_ble_eq_true rfl)
    (case tv0_sub => exact (.cons ⟨_, rfl⟩ (.cons ⟨_, rfl⟩ .nil)))
    (case te0_mul => k_is)
    (case tl0_mul => k_is)
    (case tz0_mul => exact Nat.le_of_ble_eq_true rfl)
    (case tv0_mul => exact (.cons ⟨_, rfl⟩ (.cons ⟨_, rfl⟩ .nil)))
    (case te0_pick => k_is)
    (case tl0_pick => k_is)
    (case tz0_pick => exact Nat.le_of_ble_eq_true rfl)
    (case tv0_pick => exact (.cons ⟨_, rfl⟩ (.cons ⟨_, rfl⟩ (.cons ⟨_, rfl⟩ .nil))))
    (case te0_sum => k_is)
    (case tl0_sum => k_is)
    (case tz0_sum => exact Nat.le_of_ble_eq_true rfl)
    (case tv0_sum => exact .nil)
    (case te0_most => k_is)
    (case tl0_most => k_is)
    (case tz0_most => exact Nat.le_of_ble_eq_true rfl)
    (case tv0_most => exact .nil)
    (case te0_look => k_is)
    (case tl0_look => k_is)
    (case tz0_look => exact Nat.le_of_ble_eq_true rfl)
    (case tv0_look => exact (.cons ⟨_, rfl⟩ (.cons ⟨_, rfl⟩ .nil)))
    (case ra1 => k_is)
    (case rl1 => k_is)
    (case rk1 => k_keys)
    (case te1_num => k_is)
    (case tl1_num => k_is)
    (case tz1_num => exact Nat.le_of_ble_eq_true rfl)
    (case tv1_num => exact .nil)
    (case te1_cell => k_is)
    (case tl1_cell => k_is)
    (case tz1_cell => exact Nat.le_of_ble_eq_true rfl)
    (case tv1_cell => exact (.cons ⟨_, rfl⟩ .nil))
    (case te1_add => k_is)
    (case tl1_add => k_is)
    (case tz1_add => exact Nat.le_of_ble_eq_true rfl)
    (case tv1_add => exact .nil)
    (case te1_sub => k_is)
    (case tl1_sub => k_is)
    (case tz1_sub => exact Nat.le_of_ble_eq_true rfl)
    (case tv1_sub => exact .nil)
    (case te1_mul => k_is)
    (case tl1_mul => k_is)
    (case tz1_mul => exact Nat.le_of_ble_eq_true rfl)
    (case tv1_mul => exact .nil)
    (case te1_pick => k_is)
    (case tl1_pick => k_is)
    (case tz1_pick => exact Nat.le_of_ble_eq_true rfl)
    (case tv1_pick => exact .nil)
    (case te1_sum => k_is)
    (case tl1_sum => k_is)
    (case tz1_sum => exact Nat.le_of_ble_eq_true rfl)
    (case tv1_sum => exact (.cons ⟨_, rfl⟩ (.cons ⟨_, rfl⟩ .nil)))
    (case te1_most => k_is)
    (case tl1_most => k_is)
    (case tz1_most => exact Nat.le_of_ble_eq_true rfl)
    (case tv1_most => exact (.cons ⟨_, rfl⟩ (.cons ⟨_, rfl⟩ .nil)))
    (case te1_look => k_is)
    (case tl1_look => k_is)
    (case tz1_look => exact Nat.le_of_ble_eq_true rfl)
    (case tv1_look => exact (.cons ⟨_, rfl⟩ (.cons ⟨_, rfl⟩ .nil)))
