import PyProof.Rows.All
import Wide.All
import OpenK.AllK
import Wide.FinOn
import HandS.ForMost
import HandS.Evl
import HandS.IsInst
import HandS.Sort
import HandS.Wide
import PyProof.LongRange
import HandS.Rev
import HandS.More
import HandS.TupSets
import HandS.SetBool
import PySem.Challenge.RW_rulesheet_k02_depth_and_needs
set_option Elab.async false
set_option linter.all false
set_option maxRecDepth 100000
set_option maxHeartbeats 4000000
/-! own layer: values as plain data, locals as a row of data, lists that a def keeps to itself -/
namespace Pu
open PySem PySem.Spec L2 Evl

/-! ### heaps -/
/-- G is what is shared; what H has beside it is private; behind H2: the shared part -/
def grow (G H H2 : Hp) : Hp := fun a => match G a, H a with
  | none, some _ => none
  | _, _ => H2 a
def hide (p : Addr) (G : Hp) : Hp := fun a => if a = p then none else G a
theorem grow_priv {G H H2 : Hp} {a : Addr} {o : HO} (h1 : G a = none) (h2 : H a = some o) : grow G H H2 a = none := by
  unfold grow
  rw [h1, h2]
theorem grow_pub {G H H2 : Hp} {a : Addr} {o : HO} (h1 : G a = some o) : grow G H H2 a = H2 a := by
  unfold grow
  rw [h1]
theorem grow_new {G H H2 : Hp} {a : Addr} (h1 : H a = none) : grow G H H2 a = H2 a := by
  unfold grow
  rw [h1]
  cases G a <;> rfl
theorem ex_grow {G H H2 : Hp} (e : Ex G H) (e2 : Ex H H2) : Ex G (grow G H H2) := fun a o h => by
  rw [grow_pub h]
  exact e2 a o (e a o h)
theorem grow_ex {G H H2 : Hp} : Ex (grow G H H2) H2 := fun a o h => by
  unfold grow at h
  split at h
  · cases h
  · exact h
theorem grow_mono {G H H2 H3 : Hp} (e : Ex H2 H3) : Ex (grow G H H2) (grow G H H3) := fun a o h => by
  unfold grow at h ⊢
  split at h
  · cases h
  · exact e a o h
theorem grow_self {G H : Hp} (e : Ex G H) : grow G H H = G := by
  funext a
  unfold grow
  cases hg : G a with
  | none =>
    cases hh : H a with
    | none => rfl
    | some o => rfl
  | some o =>
    show H a = some o
    exact e a o hg
theorem grow_grow {G H H1 H2 : Hp} (e : Ex H H1) : grow (grow G H H1) H1 H2 = grow G H H2 := by
  funext a
  unfold grow
  cases hg : G a with
  | none =>
    cases hh : H a with
    | none =>
      cases h1 : H1 a with
      | none => rfl
      | some o => rfl
    | some o =>
      have := e a o hh
      rw [this]
  | some o =>
    cases h1 : H1 a with
    | none => rfl
    | some o => rfl
theorem hide_ex {p : Addr} {G : Hp} : Ex (hide p G) G := fun a o h => by
  unfold hide at h
  split at h
  · cases h
  · exact h
theorem hide_self {p : Addr} {G : Hp} : hide p G p = none := by
  unfold hide
  rw [if_pos rfl]
theorem hide_ne {p a : Addr} {G : Hp} (h : a ≠ p) : hide p G a = G a := by
  unfold hide
  rw [if_neg h]
theorem hide_mono {p : Addr} {G G' : Hp} (e : Ex G G') : Ex (hide p G) (hide p G') := fun a o h => by
  by_cases hp : a = p
  · rw [hp, hide_self] at h
    cases h
  · rw [hide_ne hp] at h ⊢
    exact e a o h
theorem ex_hide {p : Addr} {G G' : Hp} (e : Ex G G') (h : G p = none) : Ex G (hide p G') := fun a o q => by
  have hp : a ≠ p := fun z => by
    rw [z, h] at q
    cases q
  rw [hide_ne hp]
  exact e a o q

/-! ### data -/
mutual
def imm : PyData → Bool
  | .list _ => false
  | .dict _ => false
  | .tuple ds => immAll ds
  | _ => true
def immAll : List PyData → Bool
  | [] => true
  | d :: ds => imm d && immAll ds
end
section
variable {K : PySem.W.Frag} {H H' : Hp}
mutual
theorem dp_ex (e : Ex H H') : ∀ (d : PyData) (v : V), Dp K H v d → Dp K H' v d
  | .none, _, h => by cases h; exact .non
  | .bool b, _, h => by cases h; exact .bl b
  | .int i, _, h => by cases h; exact .int i
  | .str x, _, h => by cases h; exact .str x
  | .list ds, _, h => by
    cases h with
    | lst hs ha => exact .lst (ex_l e hs) (dpa_ex e ds _ ha)
  | .tuple ds, _, h => by
    cases h with
    | tup hs ha => exact .tup (ex_t e hs) (dpa_ex e ds _ ha)
  | .dict _, _, h => by cases h
theorem dpa_ex (e : Ex H H') : ∀ (ds : List PyData) (vs : List V), DpAll K H vs ds → DpAll K H' vs ds
  | [], _, h => by cases h; exact .nil
  | d :: ds, _, h => by
    cases h with
    | cons h1 h2 => exact .cons (dp_ex e d _ h1) (dpa_ex e ds _ h2)
end
theorem _root_.L2.Dp.up {v : V} {d : PyData} (h : Dp K H v d) (e : Ex H H') : Dp K H' v d := dp_ex e d v h
theorem _root_.L2.DpAll.up {vs : List V} {ds : List PyData} (h : DpAll K H vs ds) (e : Ex H H') : DpAll K H' vs ds := dpa_ex e ds vs h
/-- every tuple stays -/
def ExT (K : PySem.W.Frag) (H H' : Hp) : Prop := ∀ a xs, SqT K H a xs → SqT K H' a xs
mutual
theorem dp_imm (e : ExT K H H') : ∀ (d : PyData) (v : V), imm d = true → Dp K H v d → Dp K H' v d
  | .none, _, _, h => by cases h; exact .non
  | .bool b, _, _, h => by cases h; exact .bl b
  | .int i, _, _, h => by cases h; exact .int i
  | .str x, _, _, h => by cases h; exact .str x
  | .list ds, _, hi, h => by
    unfold imm at hi
    cases hi
  | .tuple ds, _, hi, h => by
    cases h with
    | tup hs ha =>
      refine .tup (e _ _ hs) (dpa_imm e ds _ ?_ ha)
      unfold imm at hi
      exact hi
  | .dict _, _, _, h => by cases h
theorem dpa_imm (e : ExT K H H') : ∀ (ds : List PyData) (vs : List V), immAll ds = true → DpAll K H vs ds → DpAll K H' vs ds
  | [], _, _, h => by cases h; exact .nil
  | d :: ds, _, hi, h => by
    unfold immAll at hi
    obtain ⟨i1, i2⟩ := Bool.and_eq_true_iff.mp hi
    cases h with
    | cons h1 h2 => exact .cons (dp_imm e d _ i1 h1) (dpa_imm e ds _ i2 h2)
end
/-- what is shared keeps its tuples, if what is private are lists -/
theorem exT_of {G : Hp} (h : ∀ a xs, Rd H a (.tup xs) → Rd G a (.tup xs)) : ExT K H G := fun a xs q => by
  rcases q with q | q
  · exact .inl (h a xs q)
  · exact .inr q
theorem dpa_len {vs : List V} {ds : List PyData} (h : DpAll K H vs ds) : vs.length = ds.length := by
  induction ds generalizing vs with
  | nil => cases h; rfl
  | cons d ds ih =>
    cases h with
    | cons h1 h2 => rw [List.length_cons, List.length_cons, ih h2]
theorem dpa_at : ∀ {ds : List PyData} {vs : List V} {i : Nat} {d : PyData}, DpAll K H vs ds → ds[i]? = some d → ∃ v, vs[i]? = some v ∧ Dp K H v d
  | [], _, _, _, _, hi => by simp at hi
  | d' :: ds, _, 0, d, h, hi => by
    cases h with
    | cons h1 h2 =>
      have e : d' = d := by simpa using hi
      subst e
      exact ⟨_, rfl, h1⟩
  | d' :: ds, _, i + 1, d, h, hi => by
    cases h with
    | cons h1 h2 =>
      obtain ⟨v, q, r⟩ := dpa_at (i := i) h2 (by simpa using hi)
      exact ⟨v, by simpa using q, r⟩
theorem dpa_at' {vs : List V} {ds : List PyData} {i : Nat} {v : V} (h : DpAll K H vs ds) (hi : vs[i]? = some v) : ∃ d, ds[i]? = some d ∧ Dp K H v d := by
  have hl : i < vs.length := (List.getElem?_eq_some_iff.mp hi).1
  rw [dpa_len h] at hl
  obtain ⟨v', e, q⟩ := dpa_at h (List.getElem?_eq_getElem hl)
  rw [hi] at e
  cases e
  exact ⟨_, List.getElem?_eq_getElem hl, q⟩
theorem dpa_ix {vs : List V} {ds : List PyData} {i : Int} {d : PyData} (h : DpAll K H vs ds) (hi : atI ds i = some d) : ∃ v, atI vs i = some v ∧ Dp K H v d := by
  unfold atI at hi ⊢
  rw [dpa_len h]
  cases hx : ixN ds.length i with
  | none =>
    rw [hx] at hi
    cases hi
  | some j =>
    rw [hx] at hi
    exact dpa_at h hi
theorem dpa_app {vs ws : List V} {ds es : List PyData} (h : DpAll K H vs ds) (h' : DpAll K H ws es) : DpAll K H (vs ++ ws) (ds ++ es) := by
  induction ds generalizing vs with
  | nil => cases h; exact h'
  | cons d ds ih =>
    cases h with
    | cons h1 h2 => exact .cons h1 (ih h2)
theorem dpa_snoc {vs : List V} {v : V} {ds : List PyData} {d : PyData} (h : DpAll K H vs ds) (h' : Dp K H v d) : DpAll K H (vs ++ [v]) (ds ++ [d]) := dpa_app h (.cons h' .nil)
theorem dpa_take {vs : List V} {ds : List PyData} (n : Nat) (h : DpAll K H vs ds) : DpAll K H (vs.take n) (ds.take n) := by
  induction ds generalizing vs n with
  | nil => cases h; rw [List.take_nil, List.take_nil]; exact .nil
  | cons d ds ih =>
    cases h with
    | cons h1 h2 =>
      cases n with
      | zero => exact .nil
      | succ n => exact .cons h1 (ih n h2)
theorem dpa_drop {vs : List V} {ds : List PyData} (n : Nat) (h : DpAll K H vs ds) : DpAll K H (vs.drop n) (ds.drop n) := by
  induction ds generalizing vs n with
  | nil => cases h; rw [List.drop_nil, List.drop_nil]; exact .nil
  | cons d ds ih =>
    cases h with
    | cons h1 h2 =>
      cases n with
      | zero => exact .cons h1 h2
      | succ n => exact ih n h2
theorem dpa_set {vs : List V} {v : V} {ds : List PyData} {d : PyData} (n : Nat) (h : DpAll K H vs ds) (h' : Dp K H v d) : DpAll K H (vs.set n v) (ds.set n d) := by
  induction ds generalizing vs n with
  | nil => cases h; exact .nil
  | cons d' ds ih =>
    cases h with
    | cons h1 h2 =>
      cases n with
      | zero => exact .cons h' h2
      | succ n => exact .cons h1 (ih n h2)
theorem dpa_dropLast {vs : List V} {ds : List PyData} (h : DpAll K H vs ds) : DpAll K H vs.dropLast ds.dropLast := by
  rw [List.dropLast_eq_take, List.dropLast_eq_take, dpa_len h]
  exact dpa_take _ h
theorem dpa_rev {vs : List V} {ds : List PyData} (h : DpAll K H vs ds) : DpAll K H vs.reverse ds.reverse := by
  induction ds generalizing vs with
  | nil => cases h; exact .nil
  | cons d ds ih =>
    cases h with
    | cons h1 h2 =>
      rw [List.reverse_cons, List.reverse_cons]
      exact dpa_snoc (ih h2) h1
end

/-! ### the locals of a def as data -/
inductive Ent where
  | no
  | dat (d : PyData)
  /-- a list that nobody else knows -/
  | own (ds : List PyData)
  | rng (lo hi : Int)
abbrev Es := List Ent
/-- what may be private: no tuple, nothing locked -/
def NT : HO → Prop
  | .tup _ => False
  | .frz _ _ => False
  | _ => True
structure SE (K : PySem.W.Frag) (G H : Hp) (σ : St) (es : Es) : Prop where
  ex : Ex G H
  len : es.length = σ.length
  dat : ∀ (i : Nat) (d : PyData), es[i]? = some (Ent.dat d) → ∃ v, σ[i]? = some (some v) ∧ Dp K G v d
  own : ∀ (i : Nat) (ds : List PyData), es[i]? = some (Ent.own ds) → ∃ p xs, σ[i]? = some (some (V.ref p)) ∧ G p = none ∧ H p = some (.lst xs) ∧ DpAll K G xs ds
  inj : ∀ (i j : Nat) (ds ds' : List PyData) (p : Addr), es[i]? = some (Ent.own ds) → es[j]? = some (Ent.own ds') → σ[i]? = some (some (V.ref p)) → σ[j]? = some (some (V.ref p)) → i = j
  rng : ∀ (i : Nat) (lo hi : Int), es[i]? = some (Ent.rng lo hi) → ∃ p, σ[i]? = some (some (V.ref p)) ∧ G p = some (.rng lo hi)
  prv : ∀ a o, G a = none → H a = some o → NT o
section
variable {K : PySem.W.Frag} {G G' H H1 H2 : Hp} {σ : St} {es : Es}
/-- another split of a grown heap -/
theorem SE.re (S : SE K G H σ es) (eg : Ex G G') (e : Ex G' H1) (eh : Ex H H1) (hp : ∀ p xs, G p = none → H p = some (.lst xs) → G' p = none) (pv : ∀ a o, G' a = none → H1 a = some o → NT o) : SE K G' H1 σ es where
  prv := pv
  ex := e
  len := S.len
  dat := fun i d h => by
    obtain ⟨v, a, b⟩ := S.dat i d h
    exact ⟨v, a, b.up eg⟩
  own := fun i ds h => by
    obtain ⟨p, xs, a, b, c, d⟩ := S.own i ds h
    exact ⟨p, xs, a, hp p xs b c, eh _ _ c, d.up eg⟩
  inj := S.inj
  rng := fun i lo hi h => by
    obtain ⟨p, a, b⟩ := S.rng i lo hi h
    exact ⟨p, a, eg _ _ b⟩
theorem prv_grow (pv : ∀ a o, G a = none → H a = some o → NT o) (e : Ex H H2) : ∀ a o, Pu.grow G H H2 a = none → H2 a = some o → NT o := fun a o h1 h2 => by
  cases hg : G a with
  | some u =>
    rw [grow_pub hg, h2] at h1
    cases h1
  | none =>
    cases hh : H a with
    | none =>
      rw [grow_new hh, h2] at h1
      cases h1
    | some u =>
      have := e a u hh
      rw [h2] at this
      cases this
      exact pv a _ hg hh
theorem SE.grow (S : SE K G H σ es) (e : Ex H H2) : SE K (Pu.grow G H H2) H2 σ es := S.re (ex_grow S.ex e) grow_ex e (fun _ _ h1 h2 => grow_priv h1 h2) (prv_grow S.prv e)
theorem set_get {α : Type} {l : List α} {i j : Nat} {x y : α} (h : (l.set i x)[j]? = some y) : (j = i ∧ y = x ∧ i < l.length) ∨ (j ≠ i ∧ l[j]? = some y) := by
  by_cases e : j = i
  · subst e
    rw [List.getElem?_set] at h
    rw [if_pos rfl] at h
    split at h
    · cases h
      rename_i hl
      exact .inl ⟨rfl, rfl, hl⟩
    · cases h
  · rw [List.getElem?_set_ne (Ne.symm e)] at h
    exact .inr ⟨e, h⟩
theorem get_set {α : Type} {l : List α} {i : Nat} {x : α} (h : i < l.length) : (l.set i x)[i]? = some x := by
  rw [List.getElem?_set_self h]
theorem get_set_ne {α : Type} {l : List α} {i j : Nat} {x : α} (h : j ≠ i) : (l.set i x)[j]? = l[j]? := List.getElem?_set_ne (Ne.symm h)
/-- a slot takes another value -/
theorem SE.put (S : SE K G H σ es) (i : Nat) (v : Option V) (en : Ent) (hd : ∀ d, en = .dat d → ∃ x, v = some x ∧ Dp K G x d)
    (ho : ∀ ds, en = .own ds → ∃ p xs, v = some (.ref p) ∧ G p = none ∧ H p = some (.lst xs) ∧ DpAll K G xs ds ∧ ∀ (j : Nat) (ds' : List PyData), j ≠ i → es[j]? = some (Ent.own ds') → σ[j]? ≠ some (some (V.ref p)))
    (hr : ∀ lo hi, en = .rng lo hi → ∃ p, v = some (.ref p) ∧ G p = some (.rng lo hi)) : SE K G H (σ.set i v) (es.set i en) where
  prv := S.prv
  ex := S.ex
  len := by rw [List.length_set, List.length_set]; exact S.len
  dat := fun j d h => by
    rcases set_get h with ⟨e, e2, e3⟩ | ⟨e, h⟩
    · obtain ⟨x, q, r⟩ := hd d e2.symm
      subst e
      refine ⟨x, ?_, r⟩
      rw [get_set (by rw [← S.len]; exact e3), q]
    · obtain ⟨x, q, r⟩ := S.dat j d h
      exact ⟨x, by rw [get_set_ne e]; exact q, r⟩
  own := fun j ds h => by
    rcases set_get h with ⟨e, e2, e3⟩ | ⟨e, h⟩
    · obtain ⟨p, xs, q, r, s, t, _⟩ := ho ds e2.symm
      subst e
      exact ⟨p, xs, by rw [get_set (by rw [← S.len]; exact e3), q], r, s, t⟩
    · obtain ⟨p, xs, q, r⟩ := S.own j ds h
      exact ⟨p, xs, by rw [get_set_ne e]; exact q, r⟩
  inj := fun a b ds ds' p ha hb va vb => by
    rcases set_get ha with ⟨e, e2, e3⟩ | ⟨e, ha'⟩
    · rcases set_get hb with ⟨f, f2, f3⟩ | ⟨f, hb'⟩
      · rw [e, f]
      · exfalso
        obtain ⟨p', xs, q, _, _, _, no⟩ := ho ds e2.symm
        subst e
        rw [get_set (by rw [← S.len]; exact e3), q] at va
        cases va
        rw [get_set_ne f] at vb
        exact no b ds' f hb' vb
    · rcases set_get hb with ⟨f, f2, f3⟩ | ⟨f, hb'⟩
      · exfalso
        obtain ⟨p', xs, q, _, _, _, no⟩ := ho ds' f2.symm
        subst f
        rw [get_set (by rw [← S.len]; exact f3), q] at vb
        cases vb
        rw [get_set_ne e] at va
        exact no a ds e ha' va
      · rw [get_set_ne e] at va
        rw [get_set_ne f] at vb
        exact S.inj a b ds ds' p ha' hb' va vb
  rng := fun j lo hi h => by
    rcases set_get h with ⟨e, e2, e3⟩ | ⟨e, h⟩
    · obtain ⟨p, q, r⟩ := hr lo hi e2.symm
      subst e
      exact ⟨p, by rw [get_set (by rw [← S.len]; exact e3), q], r⟩
    · obtain ⟨p, q, r⟩ := S.rng j lo hi h
      exact ⟨p, by rw [get_set_ne e]; exact q, r⟩
theorem SE.putDat (S : SE K G H σ es) (i : Nat) {v : V} {d : PyData} (h : Dp K G v d) : SE K G H (σ.set i (some v)) (es.set i (.dat d)) :=
  S.put i _ _ (fun d' e => by cases e; exact ⟨v, rfl, h⟩) (fun _ e => nomatch e) (fun _ _ e => nomatch e)
theorem SE.putNo (S : SE K G H σ es) (i : Nat) (v : Option V) : SE K G H (σ.set i v) (es.set i .no) := S.put i _ _ (fun d' e => nomatch e) (fun _ e => nomatch e) (fun _ _ e => nomatch e)
theorem SE.putRng (S : SE K G H σ es) (i : Nat) {p : Addr} {lo hi : Int} (h : G p = some (.rng lo hi)) : SE K G H (σ.set i (some (.ref p))) (es.set i (.rng lo hi)) :=
  S.put i _ _ (fun d' e => nomatch e) (fun _ e => nomatch e) (fun _ _ e => by cases e; exact ⟨p, rfl, h⟩)
/-- a new list of one's own: it was free ahead of H -/
theorem SE.putOwn (S : SE K G H σ es) (i : Nat) {p : Addr} {xs : List V} {ds : List PyData} (e : Ex H H2) (hn : H p = none) (hp : H2 p = some (.lst xs)) (hd : DpAll K (hide p (Pu.grow G H H2)) xs ds) :
    SE K (hide p (Pu.grow G H H2)) H2 (σ.set i (some (.ref p))) (es.set i (.own ds)) := by
  have gp : G p = none := by
    cases q : G p with
    | none => rfl
    | some o =>
      rw [S.ex p o q] at hn
      cases hn
  have S2 : SE K (hide p (Pu.grow G H H2)) H2 σ es := S.re (ex_hide (ex_grow S.ex e) gp) (hide_ex.trans grow_ex) e (fun q xs h1 h2 => by
    by_cases z : q = p
    · rw [z, hide_self]
    · rw [hide_ne z, grow_priv h1 h2]) (fun a o h1 h2 => by
    by_cases z : a = p
    · rw [z, hp] at h2
      cases h2
      trivial
    · rw [hide_ne z] at h1
      exact prv_grow S.prv e a o h1 h2)
  refine S2.put i _ _ (fun d' e => nomatch e) (fun ds' e' => ?_) (fun _ _ e => nomatch e)
  cases e'
  refine ⟨p, xs, rfl, hide_self, hp, hd, fun j ds' _ hj z => ?_⟩
  obtain ⟨p', xs', q, _, r, _⟩ := S.own j ds' hj
  rw [z] at q
  cases q
  rw [hn] at r
  cases r
/-- a list of one's own changes -/
theorem SE.write (S : SE K G H σ es) {i : Nat} {p : Addr} {xs : List V} {ds ds' : List PyData} (hi : es[i]? = some (Ent.own ds)) (hv : σ[i]? = some (some (V.ref p))) (hd : DpAll K G xs ds') :
    SE K G (upd H p (.lst xs)) σ (es.set i (.own ds')) := by
  obtain ⟨p0, xs0, q0, gp, hp0, _⟩ := S.own i ds hi
  rw [hv] at q0
  cases q0
  have hi' : i < es.length := (List.getElem?_eq_some_iff.mp hi).1
  refine ⟨fun a o h => ?_, by rw [List.length_set]; exact S.len, fun j d h => ?_, fun j ds2 h => ?_, fun a b d1 d2 q ha hb va vb => ?_, fun j lo hi2 h => ?_, fun a o h1 h2 => ?_⟩
  · rw [upd_ne (ne_of_none h gp)]
    exact S.ex a o h
  · rcases set_get h with ⟨e, e2, e3⟩ | ⟨e, h⟩
    · cases e2
    · exact S.dat j d h
  · rcases set_get h with ⟨e, e2, e3⟩ | ⟨e, h⟩
    · cases e2
      subst e
      exact ⟨p, xs, hv, gp, upd_same, hd⟩
    · obtain ⟨p', xs', q, r, t, u⟩ := S.own j ds2 h
      refine ⟨p', xs', q, r, ?_, u⟩
      have ne : p' ≠ p := fun z => by
        subst z
        exact e (S.inj j i _ _ _ h hi q hv)
      rw [upd_ne ne]
      exact t
  · have old : ∀ {c : Nat} {d : List PyData}, (es.set i (.own ds'))[c]? = some (Ent.own d) → ∃ d', es[c]? = some (Ent.own d') := fun {c d} h => by
      rcases set_get h with ⟨e, _, _⟩ | ⟨e, h⟩
      · exact ⟨ds, by rw [e]; exact hi⟩
      · exact ⟨d, h⟩
    obtain ⟨d1', ha⟩ := old ha
    obtain ⟨d2', hb⟩ := old hb
    exact S.inj a b _ _ _ ha hb va vb
  · rcases set_get h with ⟨e, e2, e3⟩ | ⟨e, h⟩
    · cases e2
    · exact S.rng j lo hi2 h
  · by_cases z : a = p
    · rw [z, upd_same] at h2
      cases h2
      trivial
    · rw [upd_ne z] at h2
      exact S.prv a o h1 h2
/-- the slots of a comprehension's own names -/
def wipeE (es : Es) : List Nat → Es
  | [] => es
  | v :: vs => (wipeE es vs).set v .no
theorem SE.wipe (S : SE K G H σ es) : ∀ vs : List Nat, SE K G H (L2.wipe σ vs) (wipeE es vs)
  | [] => S
  | v :: vs => (S.wipe vs).putNo v none
/-- a list of one's own is shared from here on -/
theorem SE.share (S : SE K G H σ es) {i : Nat} {ds : List PyData} (hi : es[i]? = some (Ent.own ds)) : ∃ G', Ex G G' ∧ SE K G' H σ (es.set i (.dat (.list ds))) := by
  obtain ⟨p, xs, hv, gp, hp, hd⟩ := S.own i ds hi
  have hi' : i < es.length := (List.getElem?_eq_some_iff.mp hi).1
  refine ⟨upd G p (.lst xs), Ex.new gp, fun a o h => ?_, by rw [List.length_set]; exact S.len, fun j d h => ?_, fun j ds2 h => ?_, fun a b d1 d2 q ha hb va vb => ?_, fun j lo hi2 h => ?_, fun a o h1 h2 => ?_⟩
  · by_cases z : a = p
    · subst z
      rw [upd_same] at h
      cases h
      exact hp
    · rw [upd_ne z] at h
      exact S.ex a o h
  · rcases set_get h with ⟨e, e2, e3⟩ | ⟨e, h⟩
    · cases e2
      subst e
      exact ⟨.ref p, hv, .lst (.inl (.inl upd_same)) (hd.up (Ex.new gp))⟩
    · obtain ⟨v, q, r⟩ := S.dat j d h
      exact ⟨v, q, r.up (Ex.new gp)⟩
  · rcases set_get h with ⟨e, e2, e3⟩ | ⟨e, h⟩
    · cases e2
    · obtain ⟨p', xs', q, r, t, u⟩ := S.own j ds2 h
      have ne : p' ≠ p := fun z => by
        subst z
        exact e (S.inj j i _ _ _ h hi q hv)
      exact ⟨p', xs', q, by rw [upd_ne ne]; exact r, t, u.up (Ex.new gp)⟩
  · have old : ∀ {c : Nat} {d : List PyData}, (es.set i (.dat (.list ds)))[c]? = some (Ent.own d) → es[c]? = some (Ent.own d) := fun {c d} h => by
      rcases set_get h with ⟨e, e2, _⟩ | ⟨e, h⟩
      · cases e2
      · exact h
    exact S.inj a b _ _ _ (old ha) (old hb) va vb
  · rcases set_get h with ⟨e, e2, e3⟩ | ⟨e, h⟩
    · cases e2
    · obtain ⟨p', q, r⟩ := S.rng j lo hi2 h
      exact ⟨p', q, (Ex.new gp) _ _ r⟩
  · by_cases z : a = p
    · rw [z, upd_same] at h1
      cases h1
    · rw [upd_ne z] at h1
      exact S.prv a o h1 h2
end
end Pu

namespace Pu
open PySem PySem.Spec L2 Evl

/-! ### what expressions give -/
section
variable (K : PySem.W.Frag)
/-- shared data | data that may hang on a private list | a new list -/
structure EvE (te : TE) (es : Es) (d : PyData) : Prop where
  run : ∀ {G H : Hp} {σ : L2.St}, SE K G H σ es → ∀ {H1 : Hp}, Ex H H1 → ∀ {Q : VK}, (∀ v H2, Ex H1 H2 → Dp K (grow G H H2) v d → Q v H2) → te σ H1 Q
structure EvX (te : TE) (es : Es) (d : PyData) : Prop where
  run : ∀ {G H : Hp} {σ : L2.St}, SE K G H σ es → ∀ {H1 : Hp}, Ex H H1 → ∀ {Q : VK}, (∀ v H2, Ex H1 H2 → Dp K H2 v d → Q v H2) → te σ H1 Q
structure EvF (te : TE) (es : Es) (ds : List PyData) : Prop where
  run : ∀ {G H : Hp} {σ : L2.St}, SE K G H σ es → ∀ {H1 : Hp}, Ex H H1 → ∀ {Q : VK}, (∀ p xs H2, H1 p = none → Ex H1 H2 → H2 p = some (.lst xs) → DpAll K (hide p (grow G H H2)) xs ds → Q (.ref p) H2) → te σ H1 Q
structure EvB (tt : TT) (es : Es) (b : Bool) : Prop where
  run : ∀ {G H : Hp} {σ : L2.St}, SE K G H σ es → ∀ {H1 : Hp}, Ex H H1 → ∀ {Q : Bool → Hp → Prop}, (∀ H2, Ex H1 H2 → Q b H2) → tt σ H1 Q
/-- arguments: weak, strong -/
structure EvA (ta : TA) (es : Es) (ds : List PyData) : Prop where
  run : ∀ {G H : Hp} {σ : L2.St}, SE K G H σ es → ∀ {H1 : Hp}, Ex H H1 → ∀ {Q : List V → Hp → Prop}, (∀ vs H2, Ex H1 H2 → DpAll K H2 vs ds → Q vs H2) → ta σ H1 Q
structure EvS (ta : TA) (es : Es) (ds : List PyData) : Prop where
  run : ∀ {G H : Hp} {σ : L2.St}, SE K G H σ es → ∀ {H1 : Hp}, Ex H H1 → ∀ {Q : List V → Hp → Prop}, (∀ vs H2, Ex H1 H2 → DpAll K (grow G H H2) vs ds → Q vs H2) → ta σ H1 Q
/-- a slice's bound -/
structure EvO (to : TO) (es : Es) (o : Option Int) : Prop where
  run : ∀ {G H : Hp} {σ : L2.St}, SE K G H σ es → ∀ {H1 : Hp}, Ex H H1 → ∀ {Q : Option Int → Hp → Prop}, (∀ H2, Ex H1 H2 → Q o H2) → to σ H1 Q
end
/-- a scalar as data -/
def scD : V → PyData
  | .bl b => .bool b
  | .int i => .int i
  | .str s => .str s
  | _ => .none
section
variable {K : PySem.W.Frag} {es : Es} {ta tb tc : TE} {t u : TT} {d e : PyData} {ds : List PyData}
theorem ev_weak (h : EvE K ta es d) : EvX K ta es d := .mk fun {_ _ _} S {_} e1 {_} q => h.1 S e1 fun v H2 e2 hd => q v H2 e2 (hd.up grow_ex)
theorem ev_fresh (h : EvF K ta es ds) : EvE K ta es (.list ds) := .mk fun {G H σ} S {H1} e1 {Q} q => h.1 S e1 fun p xs H2 n e2 hp hd => q _ _ e2 (.lst (.inl (.inl (by
  have hn : H p = none := fresh_back e1 n
  rw [grow_new hn]
  exact hp))) (hd.up hide_ex))
theorem ev_var {i : Nat} (h : es[i]? = some (Ent.dat d)) : EvE K (tVar i) es d := .mk fun {G H σ} S {H1} e1 {Q} q => by
  obtain ⟨v, hv, hd⟩ := S.dat i d h
  exact ⟨v, hv, q v H1 (Ex.refl _) (hd.up (ex_grow S.ex e1))⟩
theorem ev_varO {i : Nat} (h : es[i]? = some (Ent.own ds)) : EvX K (tVar i) es (.list ds) := .mk fun {G H σ} S {H1} e1 {Q} q => by
  obtain ⟨p, xs, hv, gp, hp, hd⟩ := S.own i ds h
  exact ⟨_, hv, q _ H1 (Ex.refl _) (.lst (.inl (.inl (e1 _ _ hp))) (hd.up (S.ex.trans e1)))⟩
theorem ev_int {i : Int} : EvE K (tC (.int i)) es (.int i) := .mk fun {_ _ _} S {_} _ {_} q => q _ _ (Ex.refl _) (.int i)
theorem ev_bl {b : Bool} : EvE K (tC (.bl b)) es (.bool b) := .mk fun {_ _ _} S {_} _ {_} q => q _ _ (Ex.refl _) (.bl b)
theorem ev_str {x : Str} : EvE K (tC (.str x)) es (.str x) := .mk fun {_ _ _} S {_} _ {_} q => q _ _ (Ex.refl _) (.str x)
theorem ev_non : EvE K (tC .non) es .none := .mk fun {_ _ _} S {_} _ {_} q => q _ _ (Ex.refl _) .non
/-- a value of the module that is known -/
theorem ev_glob {v : V} (h : Dp K (fun _ => none) v d) : EvE K (tC v) es d := .mk fun {_ _ _} S {_} _ {_} q => q _ _ (Ex.refl _) (h.up fun _ _ z => nomatch z)
theorem ev_is {d' : PyData} (h : EvE K ta es d) (e : d = d') : EvE K ta es d' := e ▸ h
theorem ev_isX {d' : PyData} (h : EvX K ta es d) (e : d = d') : EvX K ta es d' := e ▸ h
theorem ev_isF {ds' : List PyData} (h : EvF K ta es ds) (e : ds = ds') : EvF K ta es ds' := e ▸ h
theorem eb_is {b c : Bool} (h : EvB K t es b) (e : b = c) : EvB K t es c := e ▸ h
theorem dp_int {H : Hp} {v : V} {i : Int} (h : Dp K H v (.int i)) : v = .int i := by cases h; rfl
theorem dp_bl {H : Hp} {v : V} {b : Bool} (h : Dp K H v (.bool b)) : v = .bl b := by cases h; rfl
theorem dp_str {H : Hp} {v : V} {x : Str} (h : Dp K H v (.str x)) : v = .str x := by cases h; rfl
theorem dp_non {H : Hp} {v : V} (h : Dp K H v .none) : v = .non := by cases h; rfl
theorem dp_lst {H : Hp} {v : V} (h : Dp K H v (.list ds)) : ∃ p xs, v = .ref p ∧ SqL K H p xs ∧ DpAll K H xs ds := by
  cases h with
  | lst a b => exact ⟨_, _, rfl, a, b⟩
theorem dp_tup {H : Hp} {v : V} (h : Dp K H v (.tuple ds)) : ∃ p xs, v = .ref p ∧ SqT K H p xs ∧ DpAll K H xs ds := by
  cases h with
  | tup a b => exact ⟨_, _, rfl, a, b⟩
theorem dpa_nil {H : Hp} {vs : List V} (h : DpAll K H vs []) : vs = [] := by cases h; rfl
theorem dpa_cons {H : Hp} {vs : List V} (h : DpAll K H vs (d :: ds)) : ∃ v r, vs = v :: r ∧ Dp K H v d ∧ DpAll K H r ds := by
  cases h with
  | cons a b => exact ⟨_, _, rfl, a, b⟩
theorem dpa_one {H : Hp} {vs : List V} (h : DpAll K H vs [d]) : ∃ v, vs = [v] ∧ Dp K H v d := by
  obtain ⟨v, r, rfl, a, b⟩ := dpa_cons h
  rw [dpa_nil b]
  exact ⟨v, rfl, a⟩
theorem dpa_two {H : Hp} {vs : List V} (h : DpAll K H vs [d, e]) : ∃ v w, vs = [v, w] ∧ Dp K H v d ∧ Dp K H w e := by
  obtain ⟨v, r, rfl, a, b⟩ := dpa_cons h
  obtain ⟨w, rfl, c⟩ := dpa_one b
  exact ⟨v, w, rfl, a, c⟩
/-! operators on values -/
theorem ev_op2 {r : R2} {z : PyData} (ha : EvX K ta es d) (hb : EvX K tb es e) (hr : ∀ x y H, Dp K H x d → Dp K H y e → ∀ Q : VK, (∀ v, (∀ G, Dp K G v z) → Q v H) → r x y H Q) : EvE K (tOp r ta tb) es z := .mk fun {G H σ} S {H1} e1 {Q} q =>
  ha.1 S e1 fun x H2 e2 hx => hb.1 S (e1.trans e2) fun y H3 e3 hy => hr x y H3 (hx.up e3) hy Q fun v hv => q v H3 (e2.trans e3) (hv _)
theorem ev_I0 {g : Int → Int → V} {i j k : Int} (ha : EvX K ta es (.int i)) (hb : EvX K tb es (.int j)) (hg : g i j = .int k) : EvE K (tOp (rI0 g) ta tb) es (.int k) :=
  ev_op2 ha hb fun x y H hx hy Q q => ⟨i, j, dp_int hx, dp_int hy, by rw [hg]; exact q _ fun _ => .int k⟩
theorem ev_I0b {g : Int → Int → V} {i j : Int} {b : Bool} (ha : EvX K ta es (.int i)) (hb : EvX K tb es (.int j)) (hg : g i j = .bl b) : EvE K (tOp (rI0 g) ta tb) es (.bool b) :=
  ev_op2 ha hb fun x y H hx hy Q q => ⟨i, j, dp_int hx, dp_int hy, by rw [hg]; exact q _ fun _ => .bl b⟩
theorem ev_I {C : Int → Int → Prop} {g : Int → Int → V} {i j k : Int} (ha : EvX K ta es (.int i)) (hb : EvX K tb es (.int j)) (hg : g i j = .int k) (hc : C i j) : EvE K (tOp (rI C g) ta tb) es (.int k) :=
  ev_op2 ha hb fun x y H hx hy Q q => ⟨i, j, dp_int hx, dp_int hy, hc, by rw [hg]; exact q _ fun _ => .int k⟩
theorem ev_neg {i : Int} {g : Int → V} {k : Int} (ha : EvX K ta es (.int i)) (hg : g i = .int k) : EvE K (tUn (rU g) ta) es (.int k) := .mk fun {G H σ} S {H1} e1 {Q} q =>
  ha.1 S e1 fun x H2 e2 hx => ⟨i, dp_int hx, by rw [hg]; exact q _ H2 e2 (.int k)⟩
theorem ev_eqI {i j : Int} (ha : EvX K ta es (.int i)) (hb : EvX K tb es (.int j)) : EvE K (tOp rEq ta tb) es (.bool (decide (i = j))) :=
  ev_op2 ha hb fun x y H hx hy Q q => by
    rw [dp_int hx, dp_int hy]
    refine ⟨rfl, ?_⟩
    have e : decide (V.int i = V.int j) = decide (i = j) := by
      by_cases h : i = j
      · rw [h, decide_eq_true rfl, decide_eq_true rfl]
      · rw [decide_eq_false h, decide_eq_false fun z => h (V.int.inj z)]
    rw [e]
    exact q _ fun _ => .bl _
theorem ev_eqS {i j : Str} (ha : EvX K ta es (.str i)) (hb : EvX K tb es (.str j)) : EvE K (tOp rEq ta tb) es (.bool (decide (i = j))) :=
  ev_op2 ha hb fun x y H hx hy Q q => by
    rw [dp_str hx, dp_str hy]
    refine ⟨rfl, ?_⟩
    have e : decide (V.str i = V.str j) = decide (i = j) := by
      by_cases h : i = j
      · rw [h, decide_eq_true rfl, decide_eq_true rfl]
      · rw [decide_eq_false h, decide_eq_false fun z => h (V.str.inj z)]
    rw [e]
    exact q _ fun _ => .bl _
theorem ev_eqB {i j : Bool} (ha : EvX K ta es (.bool i)) (hb : EvX K tb es (.bool j)) : EvE K (tOp rEq ta tb) es (.bool (decide (i = j))) :=
  ev_op2 ha hb fun x y H hx hy Q q => by
    rw [dp_bl hx, dp_bl hy]
    refine ⟨rfl, ?_⟩
    have e : decide (V.bl i = V.bl j) = decide (i = j) := by
      by_cases h : i = j
      · rw [h, decide_eq_true rfl, decide_eq_true rfl]
      · rw [decide_eq_false h, decide_eq_false fun z => h (V.bl.inj z)]
    rw [e]
    exact q _ fun _ => .bl _
theorem ev_neI {i j : Int} (ha : EvX K ta es (.int i)) (hb : EvX K tb es (.int j)) : EvE K (tOp rNe ta tb) es (.bool (!decide (i = j))) :=
  ev_op2 ha hb fun x y H hx hy Q q => by
    rw [dp_int hx, dp_int hy]
    refine ⟨rfl, ?_⟩
    have e : decide (V.int i = V.int j) = decide (i = j) := by
      by_cases h : i = j
      · rw [h, decide_eq_true rfl, decide_eq_true rfl]
      · rw [decide_eq_false h, decide_eq_false fun z => h (V.int.inj z)]
    rw [e]
    exact q _ fun _ => .bl _
theorem ev_neS {i j : Str} (ha : EvX K ta es (.str i)) (hb : EvX K tb es (.str j)) : EvE K (tOp rNe ta tb) es (.bool (!decide (i = j))) :=
  ev_op2 ha hb fun x y H hx hy Q q => by
    rw [dp_str hx, dp_str hy]
    refine ⟨rfl, ?_⟩
    have e : decide (V.str i = V.str j) = decide (i = j) := by
      by_cases h : i = j
      · rw [h, decide_eq_true rfl, decide_eq_true rfl]
      · rw [decide_eq_false h, decide_eq_false fun z => h (V.str.inj z)]
    rw [e]
    exact q _ fun _ => .bl _
theorem ev_eqD (ha : EvX K ta es d) (hb : EvX K tb es e) (s1 : SeqAt.shaped d = true) (s2 : SeqAt.shaped e = true) : EvE K (tOp (rEqD K) ta tb) es (.bool (PyData.eqv d e)) :=
  ev_op2 ha hb fun x y H hx hy Q q => ⟨d, e, hx, hy, s1, s2, q _ fun _ => .bl _⟩
theorem ev_neD (ha : EvX K ta es d) (hb : EvX K tb es e) (s1 : SeqAt.shaped d = true) (s2 : SeqAt.shaped e = true) : EvE K (tOp (rNeD K) ta tb) es (.bool (!PyData.eqv d e)) :=
  ev_op2 ha hb fun x y H hx hy Q q => ⟨d, e, hx, hy, s1, s2, q _ fun _ => .bl _⟩
/-! items -/
theorem ev_ixT {i : Int} (ha : EvE K ta es (.tuple ds)) (hb : EvX K tb es (.int i)) (hi : atI ds i = some d) : EvE K (tOp (rIxT K) ta tb) es d := .mk fun {G H σ} S {H1} e1 {Q} q =>
  ha.1 S e1 fun x H2 e2 hx => hb.1 S (e1.trans e2) fun y H3 e3 hy => by
    obtain ⟨p, xs, rfl, hs, hd⟩ := dp_tup (hx.up (grow_mono e3))
    obtain ⟨v, hv, hdv⟩ := dpa_ix hd hi
    exact ⟨p, xs, i, v, rfl, dp_int hy, ex_t grow_ex hs, hv, q v H3 (e2.trans e3) hdv⟩
theorem ev_ixL {i : Int} (ha : EvE K ta es (.list ds)) (hb : EvX K tb es (.int i)) (hi : atI ds i = some d) : EvE K (tOp (rIxL K) ta tb) es d := .mk fun {G H σ} S {H1} e1 {Q} q =>
  ha.1 S e1 fun x H2 e2 hx => hb.1 S (e1.trans e2) fun y H3 e3 hy => by
    obtain ⟨p, xs, rfl, hs, hd⟩ := dp_lst (hx.up (grow_mono e3))
    obtain ⟨v, hv, hdv⟩ := dpa_ix hd hi
    exact ⟨p, xs, i, v, rfl, dp_int hy, ex_l grow_ex hs, hv, q v H3 (e2.trans e3) hdv⟩
theorem ev_ixO {k : Nat} {i : Int} (ha : es[k]? = some (Ent.own ds)) (hb : EvX K tb es (.int i)) (hi : atI ds i = some d) : EvE K (tOp (rIxL K) (tVar k) tb) es d := .mk fun {G H σ} S {H1} e1 {Q} q => by
  obtain ⟨p, xs, hv, gp, hp, hd⟩ := S.own k ds ha
  refine ⟨_, hv, hb.1 S e1 fun y H3 e3 hy => ?_⟩
  obtain ⟨v, hv, hdv⟩ := dpa_ix hd hi
  exact ⟨p, xs, i, v, rfl, dp_int hy, .inl (.inl (e3 _ _ (e1 _ _ hp))), hv, q v H3 e3 (hdv.up (ex_grow S.ex (e1.trans e3)))⟩
/-! arguments, displays -/
theorem ea_nil : EvA K tNil es [] := .mk fun {_ _ _} S {_} _ {_} q => q _ _ (Ex.refl _) .nil
theorem ea_cons {tr : TA} (h : EvX K ta es d) (hr : EvA K tr es ds) : EvA K (tCons ta tr) es (d :: ds) := .mk fun {_ _ _} S {_} e1 {_} q =>
  h.1 S e1 fun x H2 e2 hx => hr.1 S (e1.trans e2) fun xs H3 e3 hxs => q _ _ (e2.trans e3) (.cons (hx.up e3) hxs)
theorem es_nil : EvS K tNil es [] := .mk fun {_ _ _} S {_} _ {_} q => q _ _ (Ex.refl _) .nil
theorem es_cons {tr : TA} (h : EvE K ta es d) (hr : EvS K tr es ds) : EvS K (tCons ta tr) es (d :: ds) := .mk fun {_ _ _} S {_} e1 {_} q =>
  h.1 S e1 fun x H2 e2 hx => hr.1 S (e1.trans e2) fun xs H3 e3 hxs => q _ _ (e2.trans e3) (.cons (hx.up (grow_mono e3)) hxs)
theorem ev_tup {t : TA} (h : EvS K t es ds) (hl : ds.length ≤ 100000) : EvE K (tTup t) es (.tuple ds) := .mk fun {G H σ} S {H1} e1 {Q} q =>
  h.1 S e1 fun xs H2 e2 hx => ⟨sz_of (by rw [dpa_len hx]; exact hl), fun p hp => q _ _ (e2.trans (Ex.new hp)) (.tup (.inl (.inl (by
    rw [grow_new (fresh_back (e1.trans e2) hp)]
    exact upd_same))) (hx.up (grow_mono (Ex.new hp))))⟩
theorem grow_none {G H H2 : Hp} {p : Addr} (h : H2 p = none) : grow G H H2 p = none := by
  cases q : grow G H H2 p with
  | none => rfl
  | some o =>
    rw [grow_ex _ _ q] at h
    cases h
theorem ef_lst {t : TA} (h : EvS K t es ds) (hl : ds.length ≤ 100000) : EvF K (tLst t) es ds := .mk fun {G H σ} S {H1} e1 {Q} q =>
  h.1 S e1 fun xs H2 e2 hx => ⟨sz_of (by rw [dpa_len hx]; exact hl), fun p hp => q p xs _ (fresh_back e2 hp) (e2.trans (Ex.new hp)) upd_same
    (hx.up (ex_hide (grow_mono (Ex.new hp)) (grow_none hp)))⟩
/-! slices -/
theorem eo_none : EvO K tNoPart es none := .mk fun {_ _ _} S {_} _ {_} q => q _ (Ex.refl _)
theorem eo_some {i : Int} (h : EvX K ta es (.int i)) : EvO K (tPart ta) es (some i) := .mk fun {_ _ _} S {_} e1 {_} q => h.1 S e1 fun x H2 e2 hx => ⟨i, dp_int hx, q H2 e2⟩
def cutD (ds : List PyData) (lo hi : Option Int) : List PyData := (ds.drop (HT.sIx ds.length 0 lo)).take (HT.sIx ds.length ds.length hi - HT.sIx ds.length 0 lo)
theorem dpa_cut {H : Hp} {xs : List V} {lo hi : Option Int} (h : DpAll K H xs ds) : DpAll K H (cutV xs lo hi) (cutD ds lo hi) := by
  unfold cutV cutD
  rw [dpa_len h]
  exact dpa_take _ (dpa_drop _ h)
theorem ev_slT {tl th : TO} {lo hi : Option Int} (ha : EvE K ta es (.tuple ds)) (hl : EvO K tl es lo) (hh : EvO K th es hi) (hn : ¬ (HT.sIx ds.length 0 lo = 0 ∧ HT.sIx ds.length ds.length hi = ds.length)) :
    EvE K (tSl (rSlT K) ta tl th) es (.tuple (cutD ds lo hi)) := .mk fun {G H σ} S {H1} e1 {Q} q =>
  ha.1 S e1 fun x H2 e2 hx => hl.1 S (e1.trans e2) fun H3 e3 => hh.1 S ((e1.trans e2).trans e3) fun H4 e4 => by
    obtain ⟨p, xs, rfl, hs, hd⟩ := dp_tup (hx.up (grow_mono (e3.trans e4)))
    refine ⟨p, xs, rfl, ex_t grow_ex hs, by rw [dpa_len hd]; exact hn, fun r hr => q _ _ (((e2.trans e3).trans e4).trans (Ex.new hr)) (.tup (.inl (.inl ?_)) ((dpa_cut hd).up (grow_mono (Ex.new hr))))⟩
    rw [grow_new (fresh_back (((e1.trans e2).trans e3).trans e4) hr)]
    exact upd_same
theorem ef_slL {tl th : TO} {lo hi : Option Int} (ha : EvE K ta es (.list ds)) (hl : EvO K tl es lo) (hh : EvO K th es hi) : EvF K (tSl (rSlL K) ta tl th) es (cutD ds lo hi) := .mk fun {G H σ} S {H1} e1 {Q} q =>
  ha.1 S e1 fun x H2 e2 hx => hl.1 S (e1.trans e2) fun H3 e3 => hh.1 S ((e1.trans e2).trans e3) fun H4 e4 => by
    obtain ⟨p, xs, rfl, hs, hd⟩ := dp_lst (hx.up (grow_mono (e3.trans e4)))
    exact ⟨p, xs, rfl, ex_l grow_ex hs, fun r hr => q r _ _ (fresh_back ((e2.trans e3).trans e4) hr) (((e2.trans e3).trans e4).trans (Ex.new hr)) upd_same
      ((dpa_cut hd).up (ex_hide (grow_mono (Ex.new hr)) (grow_none hr)))⟩
theorem ef_slO {k : Nat} {tl th : TO} {lo hi : Option Int} (ha : es[k]? = some (Ent.own ds)) (hl : EvO K tl es lo) (hh : EvO K th es hi) : EvF K (tSl (rSlL K) (tVar k) tl th) es (cutD ds lo hi) := .mk fun {G H σ} S {H1} e1 {Q} q => by
  obtain ⟨p, xs, hv, gp, hp, hd⟩ := S.own k ds ha
  refine ⟨_, hv, hl.1 S e1 fun H3 e3 => hh.1 S (e1.trans e3) fun H4 e4 => ?_⟩
  exact ⟨p, xs, rfl, .inl (.inl (e4 _ _ (e3 _ _ (e1 _ _ hp)))), fun r hr => q r _ _ (fresh_back (e3.trans e4) hr) ((e3.trans e4).trans (Ex.new hr)) upd_same
    ((dpa_cut hd).up (ex_hide (ex_grow S.ex (((e1.trans e3).trans e4).trans (Ex.new hr))) (fresh_back (((S.ex.trans e1).trans e3).trans e4) hr)))⟩
/-! calls of built-ins -/
theorem ev_cb1 {r : List V → Hp → VK → Prop} {z : PyData} (ha : EvX K ta es d) (hr : ∀ x H, Dp K H x d → ∀ Q : VK, (∀ v, (∀ G, Dp K G v z) → Q v H) → r [x] H Q) : EvE K (tCB r (tCons ta tNil)) es z := .mk fun {G H σ} S {H1} e1 {Q} q =>
  ha.1 S e1 fun x H2 e2 hx => hr x H2 hx Q fun v hv => q v H2 e2 (hv _)
theorem ev_cb2 {r : List V → Hp → VK → Prop} {z : PyData} (ha : EvX K ta es d) (hb : EvX K tb es e) (hr : ∀ x y H, Dp K H x d → Dp K H y e → ∀ Q : VK, (∀ v, (∀ G, Dp K G v z) → Q v H) → r [x, y] H Q) : EvE K (tCB r (tCons ta (tCons tb tNil))) es z := .mk fun {G H σ} S {H1} e1 {Q} q =>
  ha.1 S e1 fun x H2 e2 hx => hb.1 S (e1.trans e2) fun y H3 e3 hy => hr x y H3 (hx.up e3) hy Q fun v hv => q v H3 (e2.trans e3) (hv _)
theorem ev_lenL (ha : EvX K ta es (.list ds)) : EvE K (tCB (rLenS K) (tCons ta tNil)) es (.int (ds.length : Int)) := ev_cb1 ha fun x H hx Q q => by
  obtain ⟨p, xs, rfl, hs, hd⟩ := dp_lst hx
  refine ⟨p, xs, rfl, .inl hs, ?_⟩
  rw [dpa_len hd]
  exact q _ fun _ => .int _
theorem ev_lenT (ha : EvX K ta es (.tuple ds)) : EvE K (tCB (rLenS K) (tCons ta tNil)) es (.int (ds.length : Int)) := ev_cb1 ha fun x H hx Q q => by
  obtain ⟨p, xs, rfl, hs, hd⟩ := dp_tup hx
  refine ⟨p, xs, rfl, .inr hs, ?_⟩
  rw [dpa_len hd]
  exact q _ fun _ => .int _
def rMin2 : List V → Hp → VK → Prop := fun xs H Q => ∃ i j, xs = [.int i, .int j] ∧ Q (.int (if j < i then j else i)) H
theorem ev_min2 {i j : Int} (ha : EvX K ta es (.int i)) (hb : EvX K tb es (.int j)) : EvE K (tCB rMin2 (tCons ta (tCons tb tNil))) es (.int (min i j)) := ev_cb2 ha hb fun x y H hx hy Q q => by
  refine ⟨i, j, by rw [dp_int hx, dp_int hy], ?_⟩
  rw [show (if j < i then j else i) = min i j by split <;> omega]
  exact q _ fun _ => .int _
theorem ev_max2 {i j : Int} (ha : EvX K ta es (.int i)) (hb : EvX K tb es (.int j)) : EvE K (tCB rMax2 (tCons ta (tCons tb tNil))) es (.int (max i j)) := ev_cb2 ha hb fun x y H hx hy Q q => by
  refine ⟨i, j, by rw [dp_int hx, dp_int hy], ?_⟩
  rw [show (if j > i then j else i) = max i j by split <;> omega]
  exact q _ fun _ => .int _
theorem dpa_ints {H : Hp} : ∀ {ns : List Int} {xs : List V}, DpAll K H xs (ns.map PyData.int) → xs = ns.map V.int
  | [], _, h => dpa_nil h
  | n :: ns, _, h => by
    obtain ⟨v, r, rfl, a, b⟩ := dpa_cons h
    rw [dp_int a, dpa_ints b]
    rfl
theorem ev_minL {ns : List Int} {m : Int} (ha : EvX K ta es (.list (ns.map PyData.int))) (hm : m ∈ ns) (hle : ∀ y ∈ ns, m ≤ y) : EvE K (tCB (rMin K) (tCons ta tNil)) es (.int m) := ev_cb1 ha fun x H hx Q q => by
  obtain ⟨p, xs, rfl, hs, hd⟩ := dp_lst hx
  rw [dpa_ints (xs := xs) hd] at hs
  refine ⟨p, ns, rfl, hs, List.length_pos_of_mem hm, fun k hk hk' => ?_⟩
  have e : k = m := by
    have h1 := hk' m hm
    have h2 := hle k hk
    omega
  rw [e]
  exact q _ fun _ => .int _
theorem ev_maxL {ns : List Int} {m : Int} (ha : EvX K ta es (.list (ns.map PyData.int))) (hm : m ∈ ns) (hle : ∀ y ∈ ns, y ≤ m) : EvE K (tCB (rMax K) (tCons ta tNil)) es (.int m) := ev_cb1 ha fun x H hx Q q => by
  obtain ⟨p, xs, rfl, hs, hd⟩ := dp_lst hx
  rw [dpa_ints (xs := xs) hd] at hs
  refine ⟨p, ns, rfl, hs, List.length_pos_of_mem hm, fun k hk hk' => ?_⟩
  have e : k = m := by
    have h1 := hk' m hm
    have h2 := hle k hk
    omega
  rw [e]
  exact q _ fun _ => .int _
def tyName : PyData → String
  | .none => "NoneType"
  | .bool _ => "bool"
  | .int _ => "int"
  | .str _ => "str"
  | .list _ => "list"
  | .tuple _ => "tuple"
  | .dict _ => "dict"
theorem tyX_of {H : Hp} {v : V} (h : Dp K H v d) : TyX K H v (.type (tyName d)) := by
  cases h with
  | non => exact .base .non
  | bl b => exact .base (.bl b)
  | int i => exact .base (.int i)
  | str x => exact .base (.str x)
  | lst hs _ =>
    rcases hs with (hs | ⟨o, hs⟩) | ⟨o, its, n, h1, h2, _⟩
    · exact .base (.lst hs)
    · exact .base (.frz hs)
    · exact .kList h1 h2
  | tup hs _ =>
    rcases hs with (hs | ⟨o, hs⟩) | ⟨o, its, n, h1, h2, _⟩
    · exact .base (.tup hs)
    · exact .fTuple hs
    · exact .kTuple h1 h2
theorem ev_isi {n : String} {b : Bool} (ha : EvX K ta es d) (hb : kitB (tyName d) n = some b) : EvE K (tCB (rIsi K) (tCons ta (tCons (tC (.ty n)) tNil))) es (.bool b) := .mk fun {G H σ} S {H1} e1 {Q} q =>
  ha.1 S e1 fun x H2 e2 hx => ⟨x, .ty n, _, _, b, rfl, .ty n, tyX_of hx, kit_ty hb, q _ H2 e2 (.bl b)⟩
def rInt1 : List V → Hp → VK → Prop := fun xs H Q => (∃ i, xs = [.int i] ∧ Q (.int i) H) ∨ ∃ k, xs = [.bl k] ∧ Q (.int (if k then 1 else 0)) H
theorem ev_intB {b : Bool} (ha : EvX K ta es (.bool b)) : EvE K (tCB rInt1 (tCons ta tNil)) es (.int (if b then 1 else 0)) := ev_cb1 ha fun x H hx Q q => .inr ⟨b, by rw [dp_bl hx], q _ fun _ => .int _⟩
theorem ef_listL (ha : EvE K ta es (.list ds)) : EvF K (tCB (rListS K) (tCons ta tNil)) es ds := .mk fun {G H σ} S {H1} e1 {Q} q =>
  ha.1 S e1 fun x H2 e2 hx => by
    obtain ⟨p, xs, rfl, hs, hd⟩ := dp_lst hx
    exact ⟨p, xs, rfl, .inl (ex_l grow_ex hs), fun r hr => q r _ _ (fresh_back e2 hr) (e2.trans (Ex.new hr)) upd_same (hd.up (ex_hide (grow_mono (Ex.new hr)) (grow_none hr)))⟩
theorem ef_listT (ha : EvE K ta es (.tuple ds)) : EvF K (tCB (rListS K) (tCons ta tNil)) es ds := .mk fun {G H σ} S {H1} e1 {Q} q =>
  ha.1 S e1 fun x H2 e2 hx => by
    obtain ⟨p, xs, rfl, hs, hd⟩ := dp_tup hx
    exact ⟨p, xs, rfl, .inr (ex_t grow_ex hs), fun r hr => q r _ _ (fresh_back e2 hr) (e2.trans (Ex.new hr)) upd_same (hd.up (ex_hide (grow_mono (Ex.new hr)) (grow_none hr)))⟩
def rTupS (K : PySem.W.Frag) : List V → Hp → VK → Prop := fun xs H Q => ∃ p ys, xs = [.ref p] ∧ ((SqL K H p ys ∧ ∀ l, H l = none → Q (.ref l) (upd H l (.tup ys))) ∨ (SqT K H p ys ∧ Q (.ref p) H))
theorem ev_tupL (ha : EvE K ta es (.list ds)) : EvE K (tCB (rTupS K) (tCons ta tNil)) es (.tuple ds) := .mk fun {G H σ} S {H1} e1 {Q} q =>
  ha.1 S e1 fun x H2 e2 hx => by
    obtain ⟨p, xs, rfl, hs, hd⟩ := dp_lst hx
    refine ⟨p, xs, rfl, .inl ⟨ex_l grow_ex hs, fun r hr => q _ _ (e2.trans (Ex.new hr)) (.tup (.inl (.inl ?_)) (hd.up (grow_mono (Ex.new hr))))⟩⟩
    rw [grow_new (fresh_back (e1.trans e2) hr)]
    exact upd_same
theorem ev_tupO {k : Nat} (ha : es[k]? = some (Ent.own ds)) : EvE K (tCB (rTupS K) (tCons (tVar k) tNil)) es (.tuple ds) := .mk fun {G H σ} S {H1} e1 {Q} q => by
  obtain ⟨p, xs, hv, gp, hp, hd⟩ := S.own k ds ha
  refine ⟨_, hv, p, xs, rfl, .inl ⟨.inl (.inl (e1 _ _ hp)), fun r hr => q _ _ (Ex.new hr) (.tup (.inl (.inl ?_)) (hd.up (ex_grow S.ex (e1.trans (Ex.new hr)))))⟩⟩
  rw [grow_new (fresh_back e1 hr)]
  exact upd_same
/-! tests -/
theorem eb_test {b : Bool} (h : EvX K ta es (.bool b)) : EvB K (tTest ta) es b := .mk fun {_ _ _} S {_} e1 {_} q => h.1 S e1 fun x H2 e2 hx => ⟨b, dp_bl hx, q H2 e2⟩
theorem eb_B {b : Bool} (h : EvX K ta es (.bool b)) : EvB K (tB ta) es b := .mk fun {_ _ _} S {_} e1 {_} q => h.1 S e1 fun x H2 e2 hx => ⟨b, dp_bl hx, q H2 e2⟩
theorem eb_and {a b : Bool} (h1 : EvB K t es a) (h2 : a = true → EvB K u es b) : EvB K (tAnd t u) es (a && b) := .mk fun {_ _ _} S {_} e1 {_} q => h1.1 S e1 fun H2 e2 => by
  cases a with
  | true => exact iteT ((h2 rfl).1 S (e1.trans e2) fun H3 e3 => q H3 (e2.trans e3))
  | false => exact iteF (q H2 e2)
theorem eb_or {a b : Bool} (h1 : EvB K t es a) (h2 : a = false → EvB K u es b) : EvB K (tOr t u) es (a || b) := .mk fun {_ _ _} S {_} e1 {_} q => h1.1 S e1 fun H2 e2 => by
  cases a with
  | true => exact iteT (q H2 e2)
  | false => exact iteF ((h2 rfl).1 S (e1.trans e2) fun H3 e3 => q H3 (e2.trans e3))
theorem eb_not {a : Bool} (h1 : EvB K t es a) : EvB K (tNot t) es (!a) := .mk fun {_ _ _} S {_} e1 {_} q => h1.1 S e1 fun H2 e2 => q H2 e2
theorem ev_andV {a b : Bool} (h1 : EvX K ta es (.bool a)) (h2 : a = true → EvX K tb es (.bool b)) : EvE K (tAndV ta tb) es (.bool (a && b)) := .mk fun {_ _ _} S {_} e1 {_} q => h1.1 S e1 fun x H2 e2 hx => ⟨a, dp_bl hx, by
  cases a with
  | true => exact iteT ((h2 rfl).1 S (e1.trans e2) fun y H3 e3 hy => q y H3 (e2.trans e3) (by rw [dp_bl hy]; exact .bl _))
  | false => exact iteF (q _ H2 e2 (.bl _))⟩
theorem ev_orV {a b : Bool} (h1 : EvX K ta es (.bool a)) (h2 : a = false → EvX K tb es (.bool b)) : EvE K (tOrV ta tb) es (.bool (a || b)) := .mk fun {_ _ _} S {_} e1 {_} q => h1.1 S e1 fun x H2 e2 hx => ⟨a, dp_bl hx, by
  cases a with
  | true => exact iteT (q _ H2 e2 (.bl _))
  | false => exact iteF ((h2 rfl).1 S (e1.trans e2) fun y H3 e3 hy => q y H3 (e2.trans e3) (by rw [dp_bl hy]; exact .bl _))⟩
theorem ev_notV {a : Bool} (h1 : EvX K ta es (.bool a)) : EvE K (tNotV ta) es (.bool (!a)) := .mk fun {_ _ _} S {_} e1 {_} q => h1.1 S e1 fun x H2 e2 hx => ⟨a, dp_bl hx, q _ H2 e2 (.bl _)⟩
def tTru (K : PySem.W.Frag) (ta : TE) : TT := fun σ H Q => ta σ H fun x H' => ∃ k, TruV K x H' k ∧ Q k H'
theorem ev_if {b : Bool} (h : EvB K t es b) (h1 : b = true → EvE K ta es d) (h2 : b = false → EvE K tb es d) : EvE K (tIf t ta tb) es d := .mk fun {_ _ _} S {_} e1 {_} q => h.1 S e1 fun H2 e2 => by
  cases b with
  | true => exact iteT ((h1 rfl).1 S (e1.trans e2) fun y H3 e3 hy => q y H3 (e2.trans e3) hy)
  | false => exact iteF ((h2 rfl).1 S (e1.trans e2) fun y H3 e3 hy => q y H3 (e2.trans e3) hy)
end

/-! ### promises -/
def spF {α : Type} (K : PySem.W.Frag) (args : α → List PyData) (pre : α → Prop) (res : α → PyData) : Sp := fun vs H Q _ => ∃ a : α, DpAll K H vs (args a) ∧ pre a ∧ ∀ v H2, Ex H H2 → Dp K H2 v (res a) → Q v H2
def spL {α : Type} (K : PySem.W.Frag) (args : α → List PyData) (pre : α → Prop) (res : α → List PyData) : Sp := fun vs H Q _ => ∃ a : α, DpAll K H vs (args a) ∧ pre a ∧
  ∀ p xs H2, H p = none → Ex H H2 → H2 p = some (.lst xs) → DpAll K (hide p H2) xs (res a) → Q (.ref p) H2
section
variable {K : PySem.W.Frag} {es : Es} {ta tb tc : TE} {d e : PyData} {ds : List PyData} {α : Type} {args : α → List PyData} {pre : α → Prop}
theorem sqT_grow {G H H2 : Hp} (hg : ∀ a o, G a = none → H a = some o → NT o) (e : Ex H H2) : ExT K H2 (grow G H H2) := fun a xs q => by
  rcases q with (q | ⟨o, q⟩) | q
  · refine .inl (.inl ?_)
    cases g : G a with
    | some o => rw [grow_pub g]; exact q
    | none =>
      cases h : H a with
      | none => rw [grow_new h]; exact q
      | some o =>
        have nt := hg a o g h
        rw [e _ _ h] at q
        cases q
        exact nt.elim
  · refine .inl (.inr ⟨o, ?_⟩)
    cases g : G a with
    | some o' => rw [grow_pub g]; exact q
    | none =>
      cases h : H a with
      | none => rw [grow_new h]; exact q
      | some o' =>
        have nt := hg a o' g h
        rw [e _ _ h] at q
        cases q
        exact nt.elim
  · exact .inr q
theorem exT_hide {p : Addr} {G : Hp} {xs : List V} (h : G p = some (.lst xs)) : ExT K G (hide p G) := fun a ys q => by
  rcases q with (q | ⟨o, q⟩) | q
  · refine .inl (.inl ?_)
    rw [hide_ne fun z => by rw [z, h] at q; cases q]
    exact q
  · refine .inl (.inr ⟨o, ?_⟩)
    rw [hide_ne fun z => by rw [z, h] at q; cases q]
    exact q
  · exact .inr q
theorem ev_call {res : α → PyData} {t : TA} {E : XK} (a : α) (h : EvA K t es (args a)) (hp : pre a) (hi : imm (res a) = true) : EvE K (tCall (spF K args pre res) [] E t) es (res a) := .mk fun {G H σ} S {H1} e1 {Q} q =>
  h.1 S e1 fun vs H2 e2 hd => ⟨a, by rw [List.append_nil]; exact hd, hp, fun v H3 e3 hv => q v H3 (e2.trans e3) (dp_imm (sqT_grow S.prv ((e1.trans e2).trans e3)) _ _ hi hv)⟩
theorem ev_callX {res : α → PyData} {t : TA} {E : XK} (a : α) (h : EvA K t es (args a)) (hp : pre a) : EvX K (tCall (spF K args pre res) [] E t) es (res a) := .mk fun {G H σ} S {H1} e1 {Q} q =>
  h.1 S e1 fun vs H2 e2 hd => ⟨a, by rw [List.append_nil]; exact hd, hp, fun v H3 e3 hv => q v H3 (e2.trans e3) hv⟩
theorem ef_call {res : α → List PyData} {t : TA} {E : XK} (a : α) (h : EvA K t es (args a)) (hp : pre a) (hi : immAll (res a) = true) : EvF K (tCall (spL K args pre res) [] E t) es (res a) := .mk fun {G H σ} S {H1} e1 {Q} q =>
  h.1 S e1 fun vs H2 e2 hd => ⟨a, by rw [List.append_nil]; exact hd, hp, fun p xs H3 n e3 hl hx => q p xs H3 (fresh_back e2 n) (e2.trans e3) hl (by
    have hG : grow G H H3 p = some (.lst xs) := by
      rw [grow_new (fresh_back (e1.trans e2) n)]
      exact hl
    exact dpa_imm (exT_hide hG) _ _ hi (dpa_imm (sqT_grow S.prv ((e1.trans e2).trans e3)) _ _ hi (hx.up hide_ex)))⟩
end

/-! ### statements -/
inductive Rt where
  | val (d : PyData)
  | fresh (ds : List PyData)
structure Post where
  nx : Es → Prop := fun _ => False
  rt : Rt → Prop := fun _ => False
  bk : Es → Prop := fun _ => False
  ct : Es → Prop := fun _ => False
def RtOk (K : PySem.W.Frag) (G H : Hp) (v : V) : Rt → Prop
  | .val d => Dp K H v d
  | .fresh ds => ∃ p xs, v = .ref p ∧ G p = none ∧ H p = some (.lst xs) ∧ DpAll K (hide p H) xs ds
structure Dk (K : PySem.W.Frag) (G : Hp) (P : Post) (D : Ends) : Prop where
  nx : ∀ G' H' σ' es', P.nx es' → Ex G G' → SE K G' H' σ' es' → D.nx σ' H'
  bk : ∀ G' H' σ' es', P.bk es' → Ex G G' → SE K G' H' σ' es' → D.bk σ' H'
  ct : ∀ G' H' σ' es', P.ct es' → Ex G G' → SE K G' H' σ' es' → D.ct σ' H'
  rt : ∀ v H' r, P.rt r → Ex G H' → RtOk K G H' v r → D.rt v H'
structure Ws (K : PySem.W.Frag) (t : TS) (es : Es) (P : Post) : Prop where
  run : ∀ {G H : Hp} {σ : L2.St} {D : Ends}, SE K G H σ es → Dk K G P D → t D σ H
section
variable {K : PySem.W.Frag} {es : Es} {ta tb te : TE} {tc : TT} {t u : TS} {d e : PyData} {ds : List PyData} {P : Post}
theorem RtOk.back {G G' H : Hp} {v : V} (e : Ex G G') : ∀ {r : Rt}, RtOk K G' H v r → RtOk K G H v r
  | .val _, h => h
  | .fresh _, ⟨p, xs, a, b, c⟩ => ⟨p, xs, a, fresh_back e b, c⟩
theorem Dk.mono {G G' : Hp} {D : Ends} (k : Dk K G P D) (e : Ex G G') : Dk K G' P D where
  nx := fun G2 H2 σ2 es2 h e2 S => k.nx G2 H2 σ2 es2 h (e.trans e2) S
  bk := fun G2 H2 σ2 es2 h e2 S => k.bk G2 H2 σ2 es2 h (e.trans e2) S
  ct := fun G2 H2 σ2 es2 h e2 S => k.ct G2 H2 σ2 es2 h (e.trans e2) S
  rt := fun v H2 r h e2 o => k.rt v H2 r h (e.trans e2) (o.back e)
theorem w_seq (h : Ws K t es { P with nx := fun e => Ws K u e P }) : Ws K (tSeq t u) es P := .mk fun {G H σ D} S k =>
  h.1 (D := { D with nx := u D }) S ⟨fun G' H' σ' es' hu e S' => hu.1 S' (k.mono e), k.bk, k.ct, k.rt⟩
theorem w_next (h : P.nx es) : Ws K tNext es P := .mk fun {G H σ D} S k => k.nx G H σ es h (Ex.refl _) S
theorem w_break (h : P.bk es) : Ws K tBreak es P := .mk fun {G H σ D} S k => k.bk G H σ es h (Ex.refl _) S
theorem w_cont (h : P.ct es) : Ws K tCont es P := .mk fun {G H σ D} S k => k.ct G H σ es h (Ex.refl _) S
theorem w_asg {i : Nat} (h : EvE K te es d) (hn : P.nx (es.set i (.dat d))) : Ws K (tAsg te (gName i)) es P := .mk fun {G H σ D} S k =>
  h.1 S (Ex.refl _) fun v H2 e2 hd => k.nx _ _ _ _ hn (ex_grow S.ex e2) ((S.grow e2).putDat i hd)
theorem w_asgF {i : Nat} (h : EvF K te es ds) (hn : P.nx (es.set i (.own ds))) : Ws K (tAsg te (gName i)) es P := .mk fun {G H σ D} S k =>
  h.1 S (Ex.refl _) fun p xs H2 n e2 hp hd => k.nx _ _ _ _ hn (ex_hide (ex_grow S.ex e2) (fresh_back S.ex n)) (S.putOwn i e2 n hp hd)
theorem w_asgR {i : Nat} {ta : TA} {lo hi : Int} (h : EvA K ta es [.int lo, .int hi]) (hn : P.nx (es.set i (.rng lo hi))) :
    Ws K (tAsg (tCB (fun vs H Q => ∃ i j, vs = [V.int i, V.int j] ∧ ∀ p, H p = none → Q (.ref p) (upd H p (.rng i j))) ta) (gName i)) es P := .mk fun {G H σ D} S k =>
  h.1 S (Ex.refl _) fun vs H2 e2 hd => by
    obtain ⟨v, w, rfl, h1, h2⟩ := dpa_two hd
    refine ⟨lo, hi, by rw [dp_int h1, dp_int h2], fun p hp => ?_⟩
    have e3 : Ex H (upd H2 p (.rng lo hi)) := e2.trans (Ex.new hp)
    refine k.nx _ _ _ _ hn (ex_grow S.ex e3) ((S.grow e3).putRng i ?_)
    rw [grow_new (fresh_back e2 hp)]
    exact upd_same
theorem w_drop (h : EvX K te es d) (hn : P.nx es) : Ws K (tDrop te) es P := .mk fun {G H σ D} S k =>
  h.1 S (Ex.refl _) fun v H2 e2 hd => k.nx _ _ _ _ hn (ex_grow S.ex e2) (S.grow e2)
theorem w_ret (h : EvX K te es d) (hr : P.rt (.val d)) : Ws K (tRet te) es P := .mk fun {G H σ D} S k =>
  h.1 S (Ex.refl _) fun v H2 e2 hd => k.rt v H2 _ hr (S.ex.trans e2) hd
theorem w_retF (h : EvF K te es ds) (hr : P.rt (.fresh ds)) : Ws K (tRet te) es P := .mk fun {G H σ D} S k =>
  h.1 S (Ex.refl _) fun p xs H2 n e2 hp hd => k.rt _ H2 _ hr (S.ex.trans e2) ⟨p, xs, rfl, fresh_back S.ex n, hp, hd.up (hide_mono grow_ex)⟩
theorem w_retO {i : Nat} (h : es[i]? = some (Ent.own ds)) (hr : P.rt (.fresh ds)) : Ws K (tRet (tVar i)) es P := .mk fun {G H σ D} S k => by
  obtain ⟨p, xs, hv, gp, hp, hd⟩ := S.own i ds h
  exact ⟨_, hv, k.rt _ H _ hr S.ex ⟨p, xs, rfl, gp, hp, hd.up (ex_hide S.ex gp)⟩⟩
theorem w_retN (hr : P.rt (.val .none)) : Ws K tRetN es P := .mk fun {G H σ D} S k => k.rt _ H _ hr S.ex .non
theorem w_if {b : Bool} (h : EvB K tc es b) (h1 : b = true → Ws K t es P) (h2 : b = false → Ws K u es P) : Ws K (tIfS tc t u) es P := .mk fun {G H σ D} S k =>
  h.1 S (Ex.refl _) fun H2 e2 => by
    cases b with
    | true => exact iteT ((h1 rfl).1 (S.grow e2) (k.mono (ex_grow S.ex e2)))
    | false => exact iteF ((h2 rfl).1 (S.grow e2) (k.mono (ex_grow S.ex e2)))
/-- a list of one's own is shared from here on -/
theorem w_share {i : Nat} (hi : es[i]? = some (Ent.own ds)) (h : Ws K t (es.set i (.dat (.list ds))) P) : Ws K t es P := .mk fun {G H σ D} S k => by
  obtain ⟨G', e, S'⟩ := S.share hi
  exact h.1 S' (k.mono e)
theorem w_aug {i : Nat} {f : Int → Int → Int} {a b : Int} (hi : es[i]? = some (Ent.dat (.int a))) (h : EvX K te es (.int b)) (hn : P.nx (es.set i (.dat (.int (f a b))))) : Ws K (tAug i te (ipI f)) es P := .mk fun {G H σ D} S k => by
  obtain ⟨v, hv, hd⟩ := S.dat i _ hi
  refine ⟨v, hv, h.1 S (Ex.refl _) fun w H2 e2 hw => ⟨a, b, dp_int hd, dp_int hw, ?_⟩⟩
  exact k.nx _ _ _ _ hn (ex_grow S.ex e2) ((S.grow e2).putDat i (.int _))
/-- .append -/
theorem w_append {i : Nat} (hi : es[i]? = some (Ent.own ds)) (h : EvE K te es d) (hz : ds.length < 100000) (hn : P.nx (es.set i (.own (ds ++ [d])))) : Ws K (tDrop (tBM K "list" rAppend (tVar i) (tCons te tNil))) es P := .mk fun {G H σ D} S k => by
  obtain ⟨p, xs, hv, gp, hp, hd⟩ := S.own i ds hi
  refine ⟨_, hv, .inl ⟨rfl, xs, .inl (.inl hp)⟩, h.1 S (Ex.refl _) fun v H2 e2 hw => ?_⟩
  refine ⟨p, xs, v, rfl, rfl, e2 _ _ hp, sz_lt (by rw [dpa_len hd]; exact hz), ?_⟩
  exact k.nx _ _ _ _ hn (ex_grow S.ex e2) ((S.grow e2).write hi hv (dpa_snoc (hd.up (ex_grow S.ex e2)) hw))
/-- x = xs.pop() -/
theorem w_pop {i j : Nat} (hij : i ≠ j) (hi : es[i]? = some (Ent.own (ds ++ [d]))) (hn : P.nx ((es.set i (.own ds)).set j (.dat d))) : Ws K (tAsg (tBM0 K "list" rPop (tVar i)) (gName j)) es P := .mk fun {G H σ D} S k => by
  obtain ⟨p, xs, hv, gp, hp, hd⟩ := S.own i _ hi
  have hl := dpa_len hd
  rw [List.length_append] at hl
  have hl : xs.length = ds.length + 1 := hl
  obtain ⟨v, hx, hdv⟩ := dpa_at (i := ds.length) (d := d) hd (by rw [List.getElem?_append_right (Nat.le_refl _), Nat.sub_self]; rfl)
  refine ⟨_, hv, .inl ⟨rfl, xs, .inl (.inl hp)⟩, p, xs, v, rfl, rfl, hp, by rw [hl]; exact hx, ?_⟩
  have hd2 : DpAll K G xs.dropLast ds := by
    have q := dpa_dropLast hd
    rw [List.dropLast_concat] at q
    exact q
  exact k.nx _ _ _ _ hn (Ex.refl _) ((S.write hi hv hd2).putDat j hdv)
/-- xs.extend(ys) -/
theorem w_extend {i : Nat} {es' : List PyData} (hi : es[i]? = some (Ent.own ds)) (h : EvF K te es es') (hz : ds.length + es'.length ≤ 100000) (hn : P.nx (es.set i (.own (ds ++ es')))) : Ws K (tDrop (tBM K "list" rExtend (tVar i) (tCons te tNil))) es P := .mk fun {G H σ D} S k => by
  obtain ⟨p, xs, hv, gp, hp, hd⟩ := S.own i ds hi
  refine ⟨_, hv, .inl ⟨rfl, xs, .inl (.inl hp)⟩, h.1 S (Ex.refl _) fun b ys H2 n e2 hb hw => ?_⟩
  refine ⟨p, b, xs, ys, rfl, rfl, e2 _ _ hp, hb, sz_of (by rw [dpa_len hd, dpa_len hw]; exact hz), ?_⟩
  exact k.nx _ _ _ _ hn (ex_grow S.ex e2) ((S.grow e2).write hi hv (dpa_app (hd.up (ex_grow S.ex e2)) (hw.up hide_ex)))
/-- xs[k] = e -/
theorem w_setL {i n : Nat} {z : Int} (h : EvE K te es d) (hi : es[i]? = some (Ent.own ds)) (hb : EvX K tb es (.int z)) (hz : ixN ds.length z = some n) (hn : P.nx (es.set i (.own (ds.set n d)))) : Ws K (tAsg te (gSub (tVar i) tb rSetL)) es P := .mk fun {G H σ D} S k => by
  refine h.1 S (Ex.refl _) fun v H2 e2 hw => ?_
  obtain ⟨p, xs, hv, gp, hp, hd⟩ := S.own i ds hi
  refine ⟨_, hv, hb.1 S e2 fun y H3 e3 hy => ?_⟩
  refine ⟨p, xs, z, n, rfl, dp_int hy, e3 _ _ (e2 _ _ hp), by rw [dpa_len hd]; exact hz, ?_⟩
  have e23 := e2.trans e3
  exact k.nx _ _ _ _ hn (ex_grow S.ex e23) ((S.grow e23).write hi hv (dpa_set n (hd.up (ex_grow S.ex e23)) (hw.up (grow_mono e3))))
end
end Pu

namespace Pu
open PySem PySem.Spec L2 Evl
open PyProof.Rows (envOfC)

/-! ### ranges that are kept, of any size -/
theorem turn_long {P : Program} {w : World} {K : PySem.W.Frag} {tg : Expr} (it : Addr) (lo : Int) (n : Nat) : Turn P w K tg (Itr lo n) [it] it (fun i h => IsLongIter h it (lo + (i : Nat) * 1) ((n : Int) - (i : Nat)) 1) where
  mem := by simp
  obj := fun i h st b hb => by
    have e : b = it := by simpa using hb
    subst e
    exact ⟨_, st, fun v z => by
      have z' : Data.fields _ = Data.cell v := z
      cases z'⟩
  keep := fun i h h' st k => k it (by simp) _ st
  item := by
    intro X hP hw hK hc i pins s σ H E I hf st hg
    subst hP hw hK
    obtain ⟨f0, f1, f2, f3, f4, f5⟩ := hf it (by simp)
    have W := Walks.longrange (prog := X.prog) (w := X.w) (I.ok.hd hc) it lo 1 n
    refine W.item i s _ _ hg st fun v h' tk hv st' kk => ?_
    obtain ⟨t, rfl⟩ := hv
    have I1 : Inv X pins σ H { s with heap := h', toks := tk } := I.turned (fun b o hb e => kk b o (by simpa using hb) e) f0 f1 f3 f4 f5
    refine ⟨_, rfl, go_of (s := { s with heap := h', toks := tk }) (n := "longrange_iterator") st' rfl rfl (by decide) ⟨.int (lo + i), H, I1, ⟨t, ?_⟩, ⟨rfl, rfl⟩, st', fun b hb => (hf b hb).1⟩⟩
    rw [Int.mul_one]
  done := by
    intro X hP hw hK hc i pins s σ H E I hf st hg
    subst hP hw hK
    obtain ⟨f0, f1, f2, f3, f4, f5⟩ := hf it (by simp)
    exact wpAny_pyNext_long_end (I.ok.hd hc) st (by have : n ≤ i := hg; omega) fun h' eb => ⟨rfl, I.turned (t' := s.toks) (fun b o hb e => eb b o hb e) f0 f1 f3 f4 f5⟩
  self := fun _ _ _ _ _ st h => wpAny_pyIter_longiter st h
def iRngO (tl : TE) : TI := fun σ H R => tl σ H fun x H1 => ∃ a lo hi, x = .ref a ∧ H1 a = some (.rng lo hi) ∧ R (Itr lo (hi - lo).toNat) H1
theorem pi_rngO {X : Cx} {tg l : Expr} {tl : TE} (hl : PE X l tl) : PI X tg l (iRngO tl) := by
  refine ⟨fun pins s σ H R I h => ?_⟩
  refine thn (hl.run pins s σ H _ I h) fun v s1 ⟨x, H1, I1, r1, q1⟩ => ?_
  obtain ⟨a, lo, hi, e, hq, q⟩ := q1
  subst e
  cases r1
  obtain ⟨t, u, v, ho⟩ := I1.hok a _ hq
  have e2 : (((hi - lo).toNat : Nat) : Int) - ((0 : Nat) : Int) = Builtin.Range.rangeSize lo hi 1 := by rw [rangeSize_one]; split <;> omega
  have e1 : lo + ((0 : Nat) : Int) * 1 = lo := by simp
  by_cases hs : Builtin.Range.small lo hi 1 = true
  · refine wpAny_pyIter_range ho hs ?_
    refine ⟨s1.heap.objs.size, [s1.heap.objs.size], _, _, H1, rfl, I1.kept (t' := s1.toks) fun b o e => Heap.get?_push_of_some _ e, turn_range _ lo (hi - lo).toNat, ?_, fun b hb => ?_, q⟩
    · show IsRangeIter _ _ (lo + ((0 : Nat) : Int) * 1) ((((hi - lo).toNat : Nat) : Int) - ((0 : Nat) : Int)) 1
      rw [e1, e2]
      exact Heap.get?_push_size _ rfl
    · have e : b = s1.heap.objs.size := by simpa using hb
      subst e
      exact I1.fpOk (Nat.le_refl _) (I1.hok.fresh (Nat.le_refl _))
  · refine wpAny_pyIter_longrange ho (by simpa using hs) ?_
    refine ⟨s1.heap.objs.size, [s1.heap.objs.size], _, _, H1, rfl, I1.kept (t' := s1.toks) fun b o e => Heap.get?_push_of_some _ e, turn_long _ lo (hi - lo).toNat, ?_, fun b hb => ?_, q⟩
    · show IsLongIter _ _ (lo + ((0 : Nat) : Int) * 1) ((((hi - lo).toNat : Nat) : Int) - ((0 : Nat) : Int)) 1
      rw [e1, e2]
      exact Heap.get?_push_size _ rfl
    · have e : b = s1.heap.objs.size := by simpa using hb
      subst e
      exact I1.fpOk (Nat.le_refl _) (I1.hok.fresh (Nat.le_refl _))

/-! ### what is walked -/
structure ItOk (K : PySem.W.Frag) (G : Hp) (J : It) (ds : List PyData) : Prop where
  go : ∀ i H', Ex G H' → i < ds.length → J.go i H'
  yld : ∀ i x H' H'', Ex G H' → i < ds.length → J.yld i H' x H'' → H'' = H' ∧ ∃ d, ds[i]? = some d ∧ Dp K G x d
  stop : ∀ H', Ex G H' → J.stop ds.length H'
structure EvI (K : PySem.W.Frag) (wi : TI) (es : Es) (ds : List PyData) : Prop where
  run : ∀ {G H : Hp} {σ : L2.St}, SE K G H σ es → ∀ {H1 : Hp}, Ex H H1 → ∀ {R : It → Hp → Prop}, (∀ J H2, Ex H1 H2 → ItOk K (grow G H H2) J ds → R J H2) → wi σ H1 R
section
variable {K : PySem.W.Frag} {es : Es} {ta tb te tl : TE} {tc tt : TT} {t u : TS} {d e : PyData} {ds : List PyData} {P : Post}
theorem it_list {G : Hp} {a : Addr} {xs : List V} (hs : SqL K G a xs) (hd : DpAll K G xs ds) : ItOk K G (Itl K a) ds where
  go := fun i H' e hi => by
    obtain ⟨v, hv, _⟩ := dpa_at hd (List.getElem?_eq_getElem hi)
    exact ⟨xs, v, ex_l e hs, hv⟩
  yld := fun i x H' H'' e hi y => by
    obtain ⟨e1, y⟩ := y
    obtain ⟨v, hv, hdv⟩ := dpa_at hd (List.getElem?_eq_getElem hi)
    have := y xs (ex_l e hs)
    rw [hv] at this
    cases this
    exact ⟨e1, _, List.getElem?_eq_getElem hi, hdv⟩
  stop := fun H' e => ⟨xs, ex_l e hs, by rw [dpa_len hd]; exact Nat.le_refl _⟩
theorem it_tup {G : Hp} {a : Addr} {xs : List V} (hs : SqT K G a xs) (hd : DpAll K G xs ds) : ItOk K G (Itt K a) ds where
  go := fun i H' e hi => by
    obtain ⟨v, hv, _⟩ := dpa_at hd (List.getElem?_eq_getElem hi)
    exact ⟨xs, v, ex_t e hs, hv⟩
  yld := fun i x H' H'' e hi y => by
    obtain ⟨e1, y⟩ := y
    obtain ⟨v, hv, hdv⟩ := dpa_at hd (List.getElem?_eq_getElem hi)
    have := y xs (ex_t e hs)
    rw [hv] at this
    cases this
    exact ⟨e1, _, List.getElem?_eq_getElem hi, hdv⟩
  stop := fun H' e => ⟨xs, ex_t e hs, by rw [dpa_len hd]; exact Nat.le_refl _⟩
/-- lo, lo + 1, .. -/
def rngD (lo : Int) (n : Nat) : List PyData := (List.range n).map fun i => PyData.int (lo + (i : Nat))
theorem rngD_len {lo : Int} {n : Nat} : (rngD lo n).length = n := by unfold rngD; rw [List.length_map, List.length_range]
theorem rngD_get {lo : Int} {n i : Nat} (h : i < n) : (rngD lo n)[i]? = some (.int (lo + (i : Nat))) := by
  unfold rngD
  rw [List.getElem?_map, List.getElem?_range h]
  rfl
theorem it_rng {G : Hp} {lo : Int} {n : Nat} : ItOk K G (Itr lo n) (rngD lo n) where
  go := fun i H' e hi => by rw [rngD_len] at hi; exact hi
  yld := fun i x H' H'' e hi y => by
    rw [rngD_len] at hi
    obtain ⟨e1, rfl⟩ := y
    exact ⟨e1, _, rngD_get hi, .int _⟩
  stop := fun H' e => by rw [rngD_len]; exact Nat.le_refl _
theorem ei_list (h : EvE K tl es (.list ds)) : EvI K (iList K tl) es ds := .mk fun {G H σ} S {H1} e1 {R} q => h.1 S e1 fun x H2 e2 hx => by
  obtain ⟨p, xs, rfl, hs, hd⟩ := dp_lst hx
  exact ⟨p, rfl, ⟨xs, ex_l grow_ex hs⟩, q _ H2 e2 (it_list hs hd)⟩
theorem ei_tup (h : EvE K tl es (.tuple ds)) : EvI K (iTup K tl) es ds := .mk fun {G H σ} S {H1} e1 {R} q => h.1 S e1 fun x H2 e2 hx => by
  obtain ⟨p, xs, rfl, hs, hd⟩ := dp_tup hx
  exact ⟨p, rfl, ⟨xs, ex_t grow_ex hs⟩, q _ H2 e2 (it_tup hs hd)⟩
theorem ei_rng1 {ta : TA} {n : Int} (h : EvA K ta es [.int n]) (hn : -(2 ^ 62) ≤ n ∧ n < 2 ^ 62) : EvI K (iRng1 ta) es (rngD 0 n.toNat) := .mk fun {G H σ} S {H1} e1 {R} q => h.1 S e1 fun vs H2 e2 hx => by
  obtain ⟨v, rfl, hv⟩ := dpa_one hx
  exact ⟨n, by rw [dp_int hv], hn.1, hn.2, q _ H2 e2 it_rng⟩
theorem ei_rng2 {ta : TA} {m n : Int} (h : EvA K ta es [.int m, .int n]) (hm : -(2 ^ 62) ≤ m ∧ m < 2 ^ 62) (hn : -(2 ^ 62) ≤ n ∧ n < 2 ^ 62) : EvI K (iRng2 ta) es (rngD m (n - m).toNat) := .mk fun {G H σ} S {H1} e1 {R} q => h.1 S e1 fun vs H2 e2 hx => by
  obtain ⟨v, w, rfl, hv, hw⟩ := dpa_two hx
  exact ⟨m, n, by rw [dp_int hv, dp_int hw], ⟨hm.1, hm.2, hn.1, hn.2⟩, q _ H2 e2 it_rng⟩
theorem ei_rngO {i : Nat} {lo hi : Int} (h : es[i]? = some (Ent.rng lo hi)) : EvI K (iRngO (tVar i)) es (rngD lo (hi - lo).toNat) := .mk fun {G H σ} S {H1} e1 {R} q => by
  obtain ⟨p, hv, hp⟩ := S.rng i lo hi h
  exact ⟨_, hv, p, lo, hi, rfl, e1 _ _ (S.ex _ _ hp), q _ H1 (Ex.refl _) it_rng⟩

/-! ### targets -/
structure Tg (K : PySem.W.Frag) (g : TG) (d : PyData) (es es' : Es) : Prop where
  run : ∀ {G H : Hp} {σ : L2.St} {v : V}, SE K G H σ es → Dp K G v d → ∀ {Q : L2.St → Hp → Prop}, (∀ σ', SE K G H σ' es' → Q σ' H) → g v σ H Q
theorem tg_name {j : Nat} : Tg K (gName j) d es (es.set j (.dat d)) := .mk fun {G H σ v} S hv {Q} q => q _ (S.putDat j hv)
structure TgA (K : PySem.W.Frag) (g : TGs) (ds : List PyData) (es es' : Es) : Prop where
  run : ∀ {G H : Hp} {σ : L2.St} {vs : List V}, SE K G H σ es → DpAll K G vs ds → ∀ {Q : L2.St → Hp → Prop}, (∀ σ', SE K G H σ' es' → Q σ' H) → g vs σ H Q
theorem tga_nil : TgA K gNil [] es es := .mk fun {G H σ vs} S hv {Q} q => ⟨dpa_nil hv, q _ S⟩
theorem tga_cons {g : TG} {gs : TGs} {e1 e2 : Es} (h : Tg K g d es e1) (h2 : TgA K gs ds e1 e2) : TgA K (gCons g gs) (d :: ds) es e2 := .mk fun {G H σ vs} S hv {Q} q => by
  obtain ⟨v, r, rfl, a, b⟩ := dpa_cons hv
  exact ⟨v, r, rfl, h.1 S a fun σ' S' => h2.1 S' b q⟩
theorem tg_tup {gs : TGs} {n : Nat} {e1 : Es} (h : TgA K gs ds es e1) (hn : ds.length = n) : Tg K (gTup K n gs) (.tuple ds) es e1 := .mk fun {G H σ v} S hv {Q} q => by
  obtain ⟨p, xs, rfl, hs, hd⟩ := dp_tup hv
  exact ⟨p, xs, rfl, ex_t S.ex hs, by rw [dpa_len hd]; exact hn, h.1 S hd q⟩
theorem w_asgT {g : TG} {e1 : Es} (h : EvE K te es d) (ht : Tg K g d es e1) (hn : P.nx e1) : Ws K (tAsg te g) es P := .mk fun {G H σ D} S k =>
  h.1 S (Ex.refl _) fun v H2 e2 hd => ht.1 (S.grow e2) hd fun σ' S' => k.nx _ _ _ _ hn (ex_grow S.ex e2) S'

/-! ### loops -/
theorem w_for {wi : TI} {g : TG} {tb : TS} (h : EvI K wi es ds) (Iv : Nat → Es → Prop) (h0 : Iv 0 es)
    (hs : ∀ i d e, ds[i]? = some d → Iv i e → ∃ e', Tg K g d e e' ∧ Ws K tb e' ⟨Iv (i + 1), P.rt, P.nx, Iv (i + 1)⟩) (hd : ∀ e, Iv ds.length e → P.nx e) : Ws K (tFor wi g tb) es P := .mk fun {G H σ D} S k =>
  h.1 S (Ex.refl _) fun J H2 e2 hJ => by
    refine ⟨fun i m σ' H' => m = ds.length - i ∧ i ≤ ds.length ∧ ∃ G' es', Iv i es' ∧ Ex (grow G H H2) G' ∧ SE K G' H' σ' es', ⟨ds.length, by simp, Nat.zero_le _, _, es, h0, Ex.refl _, S.grow e2⟩, ?_⟩
    rintro i m σ' H' ⟨rfl, hi, G', es', hv, eG, S'⟩
    have e0 : Ex G G' := (ex_grow S.ex e2).trans eG
    by_cases hlt : i < ds.length
    · refine .inr ⟨hJ.go i H' (eG.trans S'.ex) hlt, fun σ2 H3 => ∃ G2 es2, Iv (i + 1) es2 ∧ Ex (grow G H H2) G2 ∧ SE K G2 H3 σ2 es2, fun σ2 H3 q => ⟨ds.length - (i + 1), by omega, rfl, hlt, q⟩, fun x H3 y => ?_⟩
      obtain ⟨rfl, d, hdi, hx⟩ := hJ.yld i x H' H3 (eG.trans S'.ex) hlt y
      obtain ⟨e', tg, ws⟩ := hs i d es' hdi hv
      refine tg.1 S' (hx.up eG) fun σ2 S2 => ws.1 S2 ⟨fun G3 H3 σ3 es3 q e3 S3 => ⟨G3, es3, q, eG.trans e3, S3⟩, fun G3 H3 σ3 es3 q e3 S3 => k.nx G3 H3 σ3 es3 q (e0.trans e3) S3, fun G3 H3 σ3 es3 q e3 S3 => ⟨G3, es3, q, eG.trans e3, S3⟩, fun v H3 r q e3 o => k.rt v H3 r q (e0.trans e3) (o.back e0)⟩
    · have e : i = ds.length := by omega
      subst e
      exact .inl ⟨hJ.stop H' (eG.trans S'.ex), k.nx _ _ _ _ (hd es' hv) e0 S'⟩
theorem w_forN {wi : TI} {j : Nat} {tb : TS} (h : EvI K wi es ds) (Iv : Nat → Es → Prop) (h0 : Iv 0 es)
    (hs : ∀ i d e, ds[i]? = some d → Iv i e → Ws K tb (e.set j (.dat d)) ⟨Iv (i + 1), P.rt, P.nx, Iv (i + 1)⟩) (hd : ∀ e, Iv ds.length e → P.nx e) : Ws K (tFor wi (gName j) tb) es P :=
  w_for h Iv h0 (fun i d e a b => ⟨_, tg_name, hs i d e a b⟩) hd
theorem w_while {tb : TS} (Iv : Nat → Es → Prop) (m0 : Nat) (h0 : Iv m0 es)
    (hs : ∀ m e, Iv m e → ∃ b, EvB K tc e b ∧ (b = true → Ws K tb e ⟨fun e' => ∃ m', m' < m ∧ Iv m' e', P.rt, P.nx, fun e' => ∃ m', m' < m ∧ Iv m' e'⟩) ∧ (b = false → P.nx e)) : Ws K (tWhile tc tb) es P := .mk fun {G H σ D} S k => by
  refine ⟨fun m σ' H' => ∃ G' es', Iv m es' ∧ Ex G G' ∧ SE K G' H' σ' es', ⟨m0, G, es, h0, Ex.refl _, S⟩, ?_⟩
  rintro m σ' H' ⟨G', es', hv, eG, S'⟩
  obtain ⟨b, hb, h1, h2⟩ := hs m es' hv
  refine hb.1 S' (Ex.refl _) fun H2 e2 => ?_
  have e0 : Ex G (grow G' H' H2) := eG.trans (ex_grow S'.ex e2)
  cases b with
  | true =>
    refine iteT ⟨fun σ2 H3 => ∃ m', m' < m ∧ ∃ G2 es2, Iv m' es2 ∧ Ex G G2 ∧ SE K G2 H3 σ2 es2, fun σ2 H3 ⟨m', hm, q⟩ => ⟨m', hm, q⟩, (h1 rfl).1 (S'.grow e2) ⟨?_, ?_, ?_, ?_⟩⟩
    · rintro G3 H3 σ3 es3 ⟨m', hm, q⟩ e3 S3
      exact ⟨m', hm, G3, es3, q, e0.trans e3, S3⟩
    · exact fun G3 H3 σ3 es3 q e3 S3 => k.nx G3 H3 σ3 es3 q (e0.trans e3) S3
    · rintro G3 H3 σ3 es3 ⟨m', hm, q⟩ e3 S3
      exact ⟨m', hm, G3, es3, q, e0.trans e3, S3⟩
    · exact fun v H3 r q e3 o => k.rt v H3 r q (e0.trans e3) (o.back e0)
  | false => exact iteF (k.nx _ _ _ _ (h2 rfl) e0 (S'.grow e2))

/-! ### comprehensions -/
theorem eb_yes : EvB K tYes es true := .mk fun {_ _ _} S {_} e1 {_} q => q _ (Ex.refl _)
theorem hide_upd {G H H2 : Hp} {p : Addr} {o : HO} : hide p (grow G H (upd H2 p o)) = hide p (grow G H H2) := by
  funext a
  by_cases z : a = p
  · rw [z, hide_self, hide_self]
  · rw [hide_ne z, hide_ne z]
    unfold grow
    rw [upd_ne z]
/-- the split within a comprehension: its list is private -/
theorem SE.within {G H H' : Hp} {σ : L2.St} {p : Addr} {xs : List V} (S : SE K G H σ es) (hn : H p = none) (e : Ex H H') (hp : H' p = some (.lst xs)) : SE K (hide p (Pu.grow G H H')) H' σ es := by
  have gp : G p = none := fresh_back S.ex hn
  refine S.re (ex_hide (ex_grow S.ex e) gp) (hide_ex.trans grow_ex) e (fun q ys h1 h2 => ?_) (fun a o h1 h2 => ?_)
  · by_cases z : q = p
    · rw [z, hide_self]
    · rw [hide_ne z, grow_priv h1 h2]
  · by_cases z : a = p
    · rw [z, hp] at h2
      cases h2
      trivial
    · rw [hide_ne z] at h1
      exact prv_grow S.prv e a o h1 h2
theorem within_ex {G H H' H4 : Hp} {p : Addr} {xs : List V} (e : Ex H H') (hp : H' p = some (.lst xs)) : Ex (grow (hide p (grow G H H')) H' H4) (hide p (grow G H H4)) := fun a o h => by
  by_cases z : a = p
  · rw [z, grow_priv hide_self hp] at h
    cases h
  · rw [hide_ne z]
    have h4 := grow_ex _ _ h
    cases hg : G a with
    | some u => rw [grow_pub hg]; exact h4
    | none =>
      cases hh : H a with
      | none => rw [grow_new hh]; exact h4
      | some u =>
        have q : hide p (grow G H H') a = none := by rw [hide_ne z, grow_priv hg hh]
        rw [grow_priv q (e _ _ hh)] at h
        cases h
theorem filt_snoc_yes {f : PyData → Bool} {g : PyData → PyData} {i : Nat} (h : ds[i]? = some d) (hf : f d = true) : ((ds.take (i + 1)).filter f).map g = ((ds.take i).filter f).map g ++ [g d] := by
  rw [List.take_add_one, h, List.filter_append, List.map_append]
  show _ ++ ([d].filter f).map g = _
  rw [List.filter_cons, if_pos hf]
  rfl
theorem filt_snoc_no {f : PyData → Bool} {g : PyData → PyData} {i : Nat} (h : ds[i]? = some d) (hf : f d = false) : ((ds.take (i + 1)).filter f).map g = ((ds.take i).filter f).map g := by
  rw [List.take_add_one, h, List.filter_append, List.map_append]
  show _ ++ ([d].filter f).map g = _
  rw [List.filter_cons, if_neg (by rw [hf]; decide)]
  exact List.append_nil _
theorem ef_lc {wi : TI} {j : Nat} {vs : List Nat} (f : PyData → Bool) (g : PyData → PyData) (h : EvI K wi es ds) (hz : ds.length ≤ 50000) (hj : ∀ σ x, wipe ((wipe σ vs).set j x) vs = wipe σ vs)
    (ht : ∀ d ∈ ds, EvB K tt ((wipeE es vs).set j (.dat d)) (f d)) (he : ∀ d ∈ ds, f d = true → EvE K te ((wipeE es vs).set j (.dat d)) (g d)) : EvF K (tLc wi (gName j) tt te vs) es ((ds.filter f).map g) := .mk fun {G H σ} S {H1} e1 {Q} q =>
  h.1 S e1 fun J H2 e2 hJ Dl hD => by
    have e12 := e1.trans e2
    have hn : H Dl = none := fresh_back e12 hD
    refine ⟨fun i m H' => m = ds.length - i ∧ i ≤ ds.length ∧ Ex H2 H' ∧ ∃ acc, H' Dl = some (.lst acc) ∧ DpAll K (hide Dl (grow G H H')) acc (((ds.take i).filter f).map g), ⟨ds.length, by simp, Nat.zero_le _, Ex.new hD, [], upd_same, .nil⟩, ?_⟩
    rintro i m H' ⟨rfl, hi, eH, acc, ha, hda⟩
    have e' : Ex H H' := e12.trans eH
    by_cases hlt : i < ds.length
    · refine .inr ⟨hJ.go i H' (grow_ex.trans eH) hlt, _, fun H3 w => ⟨ds.length - (i + 1), by omega, w⟩, fun x H3 y => ?_⟩
      obtain ⟨rfl, d, hdi, hx⟩ := hJ.yld i x H' H3 (grow_ex.trans eH) hlt y
      have hm : d ∈ ds := List.mem_of_getElem? hdi
      have S2 := ((S.within hn e' ha).wipe vs).putDat j (hx.up (ex_hide (grow_mono eH) (grow_none hD)))
      refine ⟨hj σ (some x), (ht d hm).1 S2 (Ex.refl _) fun H4 e4 => ?_⟩
      have lacc : acc.length ≤ i := by
        rw [dpa_len hda, List.length_map]
        exact Nat.le_trans (List.length_filter_le _ _) (by rw [List.length_take]; exact Nat.min_le_left _ _)
      cases hf : f d with
      | true =>
        refine iteT ((he d hm hf).1 S2 e4 fun z H5 e5 hz' => ?_)
        have a5 : H5 Dl = some (.lst acc) := e5 _ _ (e4 _ _ ha)
        refine ⟨acc, a5, sz_lt (by omega), rfl, hlt, Ex.mut ((eH.trans e4).trans e5) hD, acc ++ [z], upd_same, ?_⟩
        rw [filt_snoc_yes hdi hf, hide_upd]
        exact dpa_snoc (hda.up (hide_mono (grow_mono (e4.trans e5)))) (hz'.up (within_ex e' ha))
      | false =>
        refine iteF ⟨rfl, hlt, eH.trans e4, acc, e4 _ _ ha, ?_⟩
        rw [filt_snoc_no hdi hf]
        exact hda.up (hide_mono (grow_mono e4))
    · have e : i = ds.length := by omega
      subst e
      refine .inl ⟨hJ.stop H' (grow_ex.trans eH), q Dl acc H' (fresh_back e2 hD) (e2.trans eH) ha ?_⟩
      rw [List.take_length] at hda
      exact hda
theorem ef_lcA {wi : TI} {j : Nat} {vs : List Nat} (g : PyData → PyData) (h : EvI K wi es ds) (hz : ds.length ≤ 50000) (hj : ∀ σ x, wipe ((wipe σ vs).set j x) vs = wipe σ vs)
    (he : ∀ d ∈ ds, EvE K te ((wipeE es vs).set j (.dat d)) (g d)) : EvF K (tLc wi (gName j) tYes te vs) es (ds.map g) :=
  ev_isF (ef_lc (fun _ => true) g h hz hj (fun d _ => eb_yes) fun d hd _ => he d hd) (by rw [List.filter_eq_self.mpr fun _ _ => rfl])
theorem tYes_at {σ : L2.St} {H : Hp} {Q : Bool → Hp → Prop} : tYes σ H Q = Q true H := rfl
/-- two for, no test -/
theorem ef_lc2 {wi wi1 : TI} {j j1 : Nat} {vs vs1 : List Nat} (ds1 : PyData → List PyData) (g : PyData → PyData → PyData) (h : EvI K wi es ds) (hz : (ds.flatMap fun d => (ds1 d).map (g d)).length ≤ 50000)
    (hj : ∀ σ x, wipe ((wipe σ vs).set j x) vs = wipe σ vs) (hj1 : ∀ σ x, wipe ((wipe σ vs1).set j1 x) vs1 = wipe σ vs1)
    (h1 : ∀ d ∈ ds, EvI K wi1 ((wipeE es vs).set j (.dat d)) (ds1 d))
    (he : ∀ d ∈ ds, ∀ d1 ∈ ds1 d, EvE K te ((wipeE ((wipeE es vs).set j (.dat d)) vs1).set j1 (.dat d1)) (g d d1)) : EvF K (tLc2 wi (gName j) tYes wi1 (gName j1) tYes te vs vs1) es (ds.flatMap fun d => (ds1 d).map (g d)) := .mk fun {G H σ} S {H1} e1 {Q} q =>
  h.1 S e1 fun J H2 e2 hJ Dl hD => by
    have e12 := e1.trans e2
    have hn : H Dl = none := fresh_back e12 hD
    refine ⟨fun i m H' => m = ds.length - i ∧ i ≤ ds.length ∧ Ex H2 H' ∧ ∃ acc, H' Dl = some (.lst acc) ∧ DpAll K (hide Dl (grow G H H')) acc ((ds.take i).flatMap fun d => (ds1 d).map (g d)), ⟨ds.length, by simp, Nat.zero_le _, Ex.new hD, [], upd_same, .nil⟩, ?_⟩
    rintro i m H' ⟨rfl, hi, eH, acc, ha, hda⟩
    have e' : Ex H H' := e12.trans eH
    by_cases hlt : i < ds.length
    · refine .inr ⟨hJ.go i H' (grow_ex.trans eH) hlt, fun H' => ds.length - (i + 1) = ds.length - (i + 1) ∧ i + 1 ≤ ds.length ∧ Ex H2 H' ∧ ∃ acc, H' Dl = some (.lst acc) ∧ DpAll K (hide Dl (grow G H H')) acc ((ds.take (i + 1)).flatMap fun d => (ds1 d).map (g d)), fun H3 w => ⟨ds.length - (i + 1), by omega, w⟩, fun x H3 y => ?_⟩
      obtain ⟨rfl, d, hdi, hx⟩ := hJ.yld i x H' H3 (grow_ex.trans eH) hlt y
      have hm : d ∈ ds := List.mem_of_getElem? hdi
      have S2 := ((S.within hn e' ha).wipe vs).putDat j (hx.up (ex_hide (grow_mono eH) (grow_none hD)))
      have tk : (ds.take (i + 1)).flatMap (fun d => (ds1 d).map (g d)) = (ds.take i).flatMap (fun d => (ds1 d).map (g d)) ++ (ds1 d).map (g d) := by
        rw [List.take_add_one, hdi, List.flatMap_append]
        show _ ++ List.flatMap _ [d] = _
        rw [List.flatMap_singleton]
      have tot : ((ds.take (i + 1)).flatMap (fun d => (ds1 d).map (g d))).length ≤ 50000 := by
        refine Nat.le_trans ?_ hz
        conv => rhs; rw [← List.take_append_drop (i + 1) ds, List.flatMap_append, List.length_append]
        exact Nat.le_add_right _ _
      rw [tk, List.length_append, List.length_map] at tot
      refine ⟨hj σ (some x), ?_⟩
      rw [tYes_at]
      rw [if_pos rfl]
      refine (h1 d hm).1 S2 (Ex.refl _) fun J1 H4 e4 hJ1 => ?_
      have e4' : Ex H H4 := e'.trans e4
      have a4 : H4 Dl = some (.lst acc) := e4 _ _ ha
      refine ⟨fun k n H5 => n = (ds1 d).length - k ∧ k ≤ (ds1 d).length ∧ Ex H2 H5 ∧ Ex (grow (hide Dl (grow G H H3)) H3 H4) (hide Dl (grow G H H5)) ∧ ∃ acc2, H5 Dl = some (.lst acc2) ∧ DpAll K (hide Dl (grow G H H5)) acc2 ((ds.take i).flatMap (fun d => (ds1 d).map (g d)) ++ ((ds1 d).take k).map (g d)),
        ⟨(ds1 d).length, by simp, Nat.zero_le _, eH.trans e4, within_ex e' ha, acc, a4, ?_⟩, ?_⟩
      · show DpAll K _ acc (_ ++ [])
        rw [List.append_nil]
        exact hda.up (hide_mono (grow_mono e4))
      rintro k n H5 ⟨rfl, hk, eH5, ew, acc2, a5, hd5⟩
      have e5' : Ex H H5 := e12.trans eH5
      have ewd : Ex (grow (hide Dl (grow G H H3)) H3 H4) H5 := ew.trans (hide_ex.trans grow_ex)
      by_cases hlt1 : k < (ds1 d).length
      · refine .inr ⟨hJ1.go k H5 ewd hlt1, fun H5 => (ds1 d).length - (k + 1) = (ds1 d).length - (k + 1) ∧ k + 1 ≤ (ds1 d).length ∧ Ex H2 H5 ∧ Ex (grow (hide Dl (grow G H H3)) H3 H4) (hide Dl (grow G H H5)) ∧ ∃ acc2, H5 Dl = some (.lst acc2) ∧ DpAll K (hide Dl (grow G H H5)) acc2 ((ds.take i).flatMap (fun d => (ds1 d).map (g d)) ++ ((ds1 d).take (k + 1)).map (g d)), fun H6 w => ⟨(ds1 d).length - (k + 1), by omega, w⟩, fun x1 H6 y1 => ?_⟩
        obtain ⟨rfl, d1, hdk, hx1⟩ := hJ1.yld k x1 H5 H6 ewd hlt1 y1
        have hm1 : d1 ∈ ds1 d := List.mem_of_getElem? hdk
        have hx2 : Dp K (hide Dl (grow G H H6)) x d := hx.up (ex_hide (grow_mono eH5) (grow_none hD))
        have S3 := (((((S.within hn e5' a5).wipe vs).putDat j hx2).wipe vs1).putDat j1 (hx1.up ew))
        refine ⟨hj1 _ (some x1), ?_⟩
        rw [tYes_at]
        rw [if_pos rfl]
        refine (he d hm d1 hm1).1 S3 (Ex.refl _) fun z H7 e7 hz' => ?_
        have a7 : H7 Dl = some (.lst acc2) := e7 _ _ a5
        have lacc : acc2.length < 100000 := by
          rw [dpa_len hd5, List.length_append, List.length_map, List.length_take]
          have : min k (ds1 d).length ≤ (ds1 d).length := Nat.min_le_right _ _
          omega
        refine ⟨acc2, a7, sz_lt lacc, rfl, hlt1, Ex.mut (eH5.trans e7) hD, ?_, acc2 ++ [z], upd_same, ?_⟩
        · rw [hide_upd]
          exact ew.trans (hide_mono (grow_mono e7))
        · rw [hide_upd, List.take_add_one, hdk, List.map_append, ← List.append_assoc]
          exact dpa_snoc (hd5.up (hide_mono (grow_mono e7))) (hz'.up (within_ex e5' a5))
      · have e : k = (ds1 d).length := by omega
        subst e
        refine .inl ⟨hJ1.stop H5 ewd, rfl, hlt, eH5, acc2, a5, ?_⟩
        rw [tk]
        rw [List.take_length] at hd5
        exact hd5
    · have e : i = ds.length := by omega
      subst e
      refine .inl ⟨hJ.stop H' (grow_ex.trans eH), q Dl acc H' (fresh_back e2 hD) (e2.trans eH) ha ?_⟩
      rw [List.take_length] at hda
      exact hda
end

/-! ### a def -/
def startE (N : List Str) (ds : List PyData) : Es := ds.map .dat ++ List.replicate (N.length - ds.length) .no
section
variable {P : Program} {w : World} {K : PySem.W.Frag} {mg : Str → Option Value} {base : Heap}
theorem se_start {N : List Str} {vs : List V} {ds : List PyData} {H : Hp} (h : DpAll K H vs ds) : SE K H H (L2.start N vs) (startE N ds) := by
  have hl := dpa_len h
  have key : ∀ (i : Nat) (en : Ent), (startE N ds)[i]? = some en → (∃ d, en = .dat d ∧ ds[i]? = some d) ∨ en = .no := fun i en hi => by
    unfold startE at hi
    by_cases hlt : i < ds.length
    · rw [List.getElem?_append_left (by rw [List.length_map]; exact hlt), List.getElem?_map, List.getElem?_eq_getElem hlt] at hi
      cases hi
      exact .inl ⟨_, rfl, List.getElem?_eq_getElem hlt⟩
    · rw [List.getElem?_append_right (by rw [List.length_map]; omega)] at hi
      have := List.mem_of_getElem? hi
      exact .inr (List.eq_of_mem_replicate this)
  refine ⟨Ex.refl _, ?_, fun i d hi => ?_, fun i d hi => ?_, fun i j d d' p hi => ?_, fun i lo hi hh => ?_, fun a o h1 h2 => ?_⟩
  · unfold startE L2.start
    rw [List.length_append, List.length_append, List.length_map, List.length_map, List.length_replicate, List.length_replicate, hl]
  · rcases key i _ hi with ⟨d', e, q⟩ | e
    · cases e
      obtain ⟨v, hv, hd⟩ := dpa_at h q
      refine ⟨v, ?_, hd⟩
      have hlt : i < vs.length := (List.getElem?_eq_some_iff.mp hv).1
      unfold L2.start
      rw [List.getElem?_append_left (by rw [List.length_map]; exact hlt), List.getElem?_map, hv]
      rfl
    · cases e
  · rcases key i _ hi with ⟨d', e, q⟩ | e <;> cases e
  · rcases key i _ hi with ⟨d', e, q⟩ | e <;> cases e
  · rcases key i _ hh with ⟨d', e, q⟩ | e <;> cases e
  · rw [h1] at h2
    cases h2
/-- a def that gives data -/
theorem fn_val {α : Type} {x qual : Str} {st : Stmt} {f : Addr} {fd : FuncData} {N ps : List Str} {k : Nat} {args : α → List PyData} {pre : α → Prop} {res : α → PyData} (F : Fun K x qual st f fd) (S : FnScope N ps (defScope st)) (hl : ∀ a, (args a).length = ps.length)
    (h : ∀ (cdv : Value) (A : Around) (outer : List Env) (s : Shared) (H : Hp) (E : XK), Room k (A.deeper (envOfC qual (defScope st) s.heap.objs.size f cdv)) →
      ∃ t, PSs (cxOf CX0 P w K mg base N qual (defScope st) f cdv A outer s H E).nox (defBody st) t ∧ ∀ a, pre a → Ws K t (startE N (args a)) { nx := fun _ => res a = .none, rt := fun r => r = .val (res a) ∨ ∃ ds, res a = .list ds ∧ r = .fresh ds }) :
    FnOk P w K mg base CX0 (k + 1) f fd ps (spF K args pre res) := by
  refine F.ok S (fun vs H Q E ⟨a, hd, _⟩ => by rw [dpa_len hd, hl]) (fun cdv A outer s H vs Q E hr hsp => ?_)
  obtain ⟨a, hd, hp, q⟩ := hsp
  obtain ⟨t, ht, hw⟩ := h cdv A outer s H E hr
  refine ⟨t, ht, (hw a hp).1 (se_start hd) ⟨fun G' H' σ' es' e eG S' => ?_, fun _ _ _ _ z => z.elim, fun _ _ _ _ z => z.elim, fun v H' r hr2 eG o => ?_⟩⟩
  · exact q .non H' (eG.trans S'.ex) (by rw [show res a = .none from e]; exact .non)
  · rcases hr2 with rfl | ⟨ds, e, rfl⟩
    · exact q v H' eG o
    · obtain ⟨p, xs, rfl, _, hp2, hx⟩ := o
      exact q _ H' eG (by rw [e]; exact .lst (.inl (.inl hp2)) (hx.up hide_ex))
/-- a def that gives a new list -/
theorem fn_lst {α : Type} {x qual : Str} {st : Stmt} {f : Addr} {fd : FuncData} {N ps : List Str} {k : Nat} {args : α → List PyData} {pre : α → Prop} {res : α → List PyData} (F : Fun K x qual st f fd) (S : FnScope N ps (defScope st)) (hl : ∀ a, (args a).length = ps.length)
    (h : ∀ (cdv : Value) (A : Around) (outer : List Env) (s : Shared) (H : Hp) (E : XK), Room k (A.deeper (envOfC qual (defScope st) s.heap.objs.size f cdv)) →
      ∃ t, PSs (cxOf CX0 P w K mg base N qual (defScope st) f cdv A outer s H E).nox (defBody st) t ∧ ∀ a, pre a → Ws K t (startE N (args a)) { rt := fun r => r = .fresh (res a) }) :
    FnOk P w K mg base CX0 (k + 1) f fd ps (spL K args pre res) := by
  refine F.ok S (fun vs H Q E ⟨a, hd, _⟩ => by rw [dpa_len hd, hl]) (fun cdv A outer s H vs Q E hr hsp => ?_)
  obtain ⟨a, hd, hp, q⟩ := hsp
  obtain ⟨t, ht, hw⟩ := h cdv A outer s H E hr
  refine ⟨t, ht, (hw a hp).1 (se_start hd) ⟨fun _ _ _ _ z => z.elim, fun _ _ _ _ z => z.elim, fun _ _ _ _ z => z.elim, fun v H' r hr2 eG o => ?_⟩⟩
  have e : r = .fresh (res a) := hr2
  subst e
  obtain ⟨p, xs, rfl, n, hp2, hx⟩ := o
  exact q p xs H' n eG hp2 hx
/-- a promise for fewer arguments -/
theorem fn_imp {α β : Type} {f : Addr} {fd : FuncData} {ps : List Str} {k : Nat} {args : α → List PyData} {pre : α → Prop} {res : α → PyData} {args' : β → List PyData} {pre' : β → Prop} {res' : β → PyData} (F : FnOk P w K mg base CX0 k f fd ps (spF K args pre res))
    (h : ∀ b, pre' b → ∃ a, args a = args' b ∧ pre a ∧ res a = res' b) : FnOk P w K mg base CX0 k f fd ps (spF K args' pre' res') :=
  F.imp fun vs H Q E ⟨b, hd, hp, q⟩ => by
    obtain ⟨a, e1, e2, e3⟩ := h b hp
    exact ⟨a, by rw [e1]; exact hd, e2, fun v H2 e hv => q v H2 e (by rw [← e3]; exact hv)⟩
end
theorem dpa_mkInts {K : PySem.W.Frag} {H : Hp} : ∀ {ns : List Int}, DpAll K H (ns.map V.int) (ns.map PyData.int)
  | [] => .nil
  | n :: ns => .cons (.int n) dpa_mkInts
/-! isinstance of plain kinds -/
theorem kb_int_int : kitB "int" "int" = some true := by decide +kernel
theorem kb_int_bool : kitB "int" "bool" = some false := by decide +kernel
theorem kb_int_str : kitB "int" "str" = some false := by decide +kernel
theorem kb_int_list : kitB "int" "list" = some false := by decide +kernel
theorem kb_int_tuple : kitB "int" "tuple" = some false := by decide +kernel
theorem kb_bool_int : kitB "bool" "int" = some true := by decide +kernel
theorem kb_bool_bool : kitB "bool" "bool" = some true := by decide +kernel
theorem kb_bool_str : kitB "bool" "str" = some false := by decide +kernel
theorem kb_bool_list : kitB "bool" "list" = some false := by decide +kernel
theorem kb_bool_tuple : kitB "bool" "tuple" = some false := by decide +kernel
theorem kb_str_int : kitB "str" "int" = some false := by decide +kernel
theorem kb_str_bool : kitB "str" "bool" = some false := by decide +kernel
theorem kb_str_str : kitB "str" "str" = some true := by decide +kernel
theorem kb_str_list : kitB "str" "list" = some false := by decide +kernel
theorem kb_str_tuple : kitB "str" "tuple" = some false := by decide +kernel
theorem kb_list_int : kitB "list" "int" = some false := by decide +kernel
theorem kb_list_bool : kitB "list" "bool" = some false := by decide +kernel
theorem kb_list_str : kitB "list" "str" = some false := by decide +kernel
theorem kb_list_list : kitB "list" "list" = some true := by decide +kernel
theorem kb_list_tuple : kitB "list" "tuple" = some false := by decide +kernel
theorem kb_tuple_int : kitB "tuple" "int" = some false := by decide +kernel
theorem kb_tuple_bool : kitB "tuple" "bool" = some false := by decide +kernel
theorem kb_tuple_str : kitB "tuple" "str" = some false := by decide +kernel
theorem kb_tuple_list : kitB "tuple" "list" = some false := by decide +kernel
theorem kb_tuple_tuple : kitB "tuple" "tuple" = some true := by decide +kernel
theorem kb_NoneType_int : kitB "NoneType" "int" = some false := by decide +kernel
theorem kb_NoneType_bool : kitB "NoneType" "bool" = some false := by decide +kernel
theorem kb_NoneType_str : kitB "NoneType" "str" = some false := by decide +kernel
theorem kb_NoneType_list : kitB "NoneType" "list" = some false := by decide +kernel
theorem kb_NoneType_tuple : kitB "NoneType" "tuple" = some false := by decide +kernel
theorem ev_slTb {K : PySem.W.Frag} {es : Es} {ta : TE} {ds : List PyData} {tl th : TO} {lo hi : Option Int} (ha : EvE K ta es (.tuple ds)) (hl : EvO K tl es lo) (hh : EvO K th es hi) (hn : (HT.sIx ds.length 0 lo == 0 && HT.sIx ds.length ds.length hi == ds.length) = false) :
    EvE K (tSl (rSlT K) ta tl th) es (.tuple (cutD ds lo hi)) := ev_slT ha hl hh fun z => by
  rw [beq_iff_eq.mpr z.1, beq_iff_eq.mpr z.2] at hn
  cases hn
/-! items at written places -/
theorem at0 {α : Type} {d : α} {ds : List α} : atI (d :: ds) 0 = some d := atI_nat (j := 0) rfl
theorem at1 {α : Type} {d e : α} {ds : List α} : atI (d :: e :: ds) 1 = some e := atI_nat (j := 1) rfl
theorem at2 {α : Type} {a b c : α} {ds : List α} : atI (a :: b :: c :: ds) 2 = some c := atI_nat (j := 2) rfl
theorem at3 {α : Type} {a b c d : α} {ds : List α} : atI (a :: b :: c :: d :: ds) 3 = some d := atI_nat (j := 3) rfl
theorem at4 {α : Type} {a b c d e : α} {ds : List α} : atI (a :: b :: c :: d :: e :: ds) 4 = some e := atI_nat (j := 4) rfl
theorem immAll_iff : ∀ {ds : List PyData}, (∀ d ∈ ds, imm d = true) → immAll ds = true
  | [], _ => rfl
  | d :: ds, h => by
    unfold immAll
    rw [h d List.mem_cons_self, immAll_iff fun x hx => h x (List.mem_cons_of_mem _ hx)]
    rfl
theorem wipe_get (σ : L2.St) (i : Nat) : ∀ vs : List Nat, (wipe σ vs)[i]? = if i ∈ vs then (if i < σ.length then some none else none) else σ[i]?
  | [] => by rw [if_neg (by simp)]; rfl
  | v :: vs => by
    show ((wipe σ vs).set v none)[i]? = _
    by_cases e : i = v
    · subst e
      rw [if_pos (by simp), List.getElem?_set, if_pos rfl, wipe_length]
    · rw [List.getElem?_set_ne (Ne.symm e), wipe_get σ i vs]
      by_cases h : i ∈ vs
      · rw [if_pos h, if_pos (List.mem_cons_of_mem _ h)]
      · rw [if_neg h, if_neg (by simp [e, h])]
theorem wipe_set {j : Nat} {vs : List Nat} (hj : j ∈ vs) (σ : L2.St) (x : Option V) : wipe ((wipe σ vs).set j x) vs = wipe σ vs := by
  refine List.ext_getElem? fun i => ?_
  rw [wipe_get, wipe_get, List.length_set, wipe_length]
  by_cases h : i ∈ vs
  · rw [if_pos h, if_pos h]
  · rw [if_neg h, if_neg h, List.getElem?_set_ne (show j ≠ i from fun e => h (by rw [← e]; exact hj)), wipe_get, if_neg h]
end Pu

namespace Pu
open PySem PySem.Spec L2
open Evl (Ex fresh_back sz_of sz_lt ex_l ex_t rLenS rMax2 rListS)
open PyProof.Rows (envOfC list_addW)

/-! ### list + list, whoever knows them -/
def rCatA (K : PySem.W.Frag) : R2 := fun x y H Q => ∃ l b xs zs, x = .ref l ∧ y = .ref b ∧ SqL K H l xs ∧ SqL K H b zs ∧ xs.length + zs.length ≤ sizeLine ∧ ∀ p, H p = none → Q (.ref p) (upd H p (.lst (xs ++ zs)))
theorem op_catA {X : Cx} : OpR X (binaryOp .Add) (rCatA X.K) := by
  intro pins s σ H x y v u Q I rx ry h
  obtain ⟨l, b, xs, zs, rfl, rfl, hH, hB, hz, q⟩ := h
  cases rx
  cases ry
  obtain ⟨its, r, ⟨⟨c1, d1, t1, s1⟩, n, e1, hc1, hd1, ht1⟩, z1⟩ := I.list hH
  obtain ⟨its2, r2, ⟨⟨c2, d2, t2, s2⟩, n2, e2, hc2, hd2, ht2⟩, z2⟩ := I.list hB
  simp only at hc1 hd1 ht1 hc2 hd2 ht2
  subst hc1 hd1 ht1 hc2 hd2 ht2
  have l1 := r.length
  have l2 := r2.length
  refine concat_meets ⟨_, e1, rfl⟩ ⟨_, e2, rfl⟩ noFill_list_add seq_list_add PySem.F.slot_list_add PySem.F.entry_list_add (PySem.F.args_list_add_2 _ _) (list_addW l b its.toArray its2.toArray n n2 none none s1 s2 (by simp only [List.size_toArray]; omega)) ⟨e1, e2, ?_⟩
  have ea : its.toArray ++ its2.toArray = (its ++ its2).toArray := by simp
  rw [ea]
  exact ⟨.ref _, _, I.lnew (t' := s.toks) (r.append r2) (by rw [List.length_append]; omega), rfl, q _ I.fresh⟩
section
variable {K : PySem.W.Frag} {es : Es} {ta tb te tl : TE} {tc tt : TT} {t u : TS} {d e : PyData} {ds ds' : List PyData} {P : Post}
theorem ef_catA (ha : EvE K ta es (.list ds)) (hb : EvE K tb es (.list ds')) (hz : ds.length + ds'.length ≤ 100000) : EvF K (tOp (rCatA K) ta tb) es (ds ++ ds') := .mk fun {G H σ} S {H1} e1 {Q} q =>
  ha.1 S e1 fun x H2 e2 hx => hb.1 S (e1.trans e2) fun y H3 e3 hy => by
    obtain ⟨p, xs, rfl, hs, hd⟩ := dp_lst (hx.up (grow_mono e3))
    obtain ⟨p', ys, rfl, hs', hd'⟩ := dp_lst hy
    refine ⟨p, p', xs, ys, rfl, rfl, ex_l grow_ex hs, ex_l grow_ex hs', sz_of (by rw [dpa_len hd, dpa_len hd']; exact hz), fun r hr => q r _ _ (fresh_back (e2.trans e3) hr) ((e2.trans e3).trans (Evl.Ex.new hr)) upd_same ?_⟩
    exact (dpa_app hd hd').up (ex_hide (grow_mono (Evl.Ex.new hr)) (grow_none hr))

/-! ### reversed -/
theorem rev_get {α : Type} {xs : List α} {i : Nat} (h : i < xs.length) : xs.reverse[i]? = xs[xs.length - 1 - i]? := by
  rw [List.getElem?_reverse h]
theorem it_revL {G : Hp} {a : Addr} {xs : List V} (hs : SqL K G a xs) (hd : DpAll K G xs ds) : ItOk K G (Itv K a xs.length) ds.reverse where
  go := fun i H' e hi => by
    rw [List.length_reverse, ← dpa_len hd] at hi
    exact ⟨hi, xs, _, ex_l e hs, List.getElem?_eq_getElem (by omega)⟩
  yld := fun i x H' H'' e hi y => by
    obtain ⟨e1, y⟩ := y
    rw [List.length_reverse] at hi
    have hl := dpa_len hd
    obtain ⟨v, hv, hdv⟩ := dpa_at hd (i := ds.length - 1 - i) (List.getElem?_eq_getElem (by omega))
    have := y xs (ex_l e hs)
    rw [hl, hv] at this
    cases this
    exact ⟨e1, _, by rw [rev_get hi, List.getElem?_eq_getElem (by omega)], hdv⟩
  stop := fun H' e => by rw [List.length_reverse, ← dpa_len hd]; exact Nat.le_refl _
theorem it_revT {G : Hp} {a : Addr} {xs : List V} (hs : SqT K G a xs) (hd : DpAll K G xs ds) : ItOk K G (RT.ItvT K a xs.length) ds.reverse where
  go := fun i H' e hi => by
    rw [List.length_reverse, ← dpa_len hd] at hi
    exact ⟨hi, xs, _, ex_t e hs, List.getElem?_eq_getElem (by omega)⟩
  yld := fun i x H' H'' e hi y => by
    obtain ⟨e1, y⟩ := y
    rw [List.length_reverse] at hi
    have hl := dpa_len hd
    obtain ⟨v, hv, hdv⟩ := dpa_at hd (i := ds.length - 1 - i) (List.getElem?_eq_getElem (by omega))
    have := y xs (ex_t e hs)
    rw [hl, hv] at this
    cases this
    exact ⟨e1, _, by rw [rev_get hi, List.getElem?_eq_getElem (by omega)], hdv⟩
  stop := fun H' e => by rw [List.length_reverse, ← dpa_len hd]; exact Nat.le_refl _
theorem ei_revL (h : EvE K tl es (.list ds)) : EvI K (RT.iRevA K tl) es ds.reverse := .mk fun {G H σ} S {H1} e1 {R} q => h.1 S e1 fun x H2 e2 hx => by
  obtain ⟨p, xs, rfl, hs, hd⟩ := dp_lst hx
  exact ⟨p, xs, rfl, .inl ⟨ex_l grow_ex hs, q _ H2 e2 (it_revL hs hd)⟩⟩
theorem ei_revT (h : EvE K tl es (.tuple ds)) : EvI K (RT.iRevA K tl) es ds.reverse := .mk fun {G H σ} S {H1} e1 {R} q => h.1 S e1 fun x H2 e2 hx => by
  obtain ⟨p, xs, rfl, hs, hd⟩ := dp_tup hx
  exact ⟨p, xs, rfl, .inr ⟨ex_t grow_ex hs, q _ H2 e2 (it_revT hs hd)⟩⟩

/-! ### a loop over few written items, turn by turn -/
def Unr (K : PySem.W.Frag) (tb : TS) (j : Nat) (P : Post) : List PyData → Es → Prop
  | [], e => P.nx e
  | d :: r, e => Ws K tb (e.set j (.dat d)) ⟨Unr K tb j P r, P.rt, P.nx, Unr K tb j P r⟩
theorem w_forU {wi : TI} {j : Nat} {tb : TS} (h : EvI K wi es ds) (hu : Unr K tb j P ds es) : Ws K (tFor wi (gName j) tb) es P := by
  refine w_forN h (fun i e => Unr K tb j P (ds.drop i) e) hu (fun i d e hd hv => ?_) (fun e hv => ?_)
  · obtain ⟨hi, hg⟩ := List.getElem?_eq_some_iff.mp hd
    rw [List.drop_eq_getElem_cons hi, hg] at hv
    exact hv
  · rw [List.drop_length] at hv
    exact hv

/-! ### a comprehension, its items told one by one -/
theorem ef_lcX {wi : TI} {j : Nat} {vs : List Nat} (rs : List PyData) (h : EvI K wi es ds) (hz : ds.length ≤ 50000) (hj : ∀ σ x, wipe ((wipe σ vs).set j x) vs = wipe σ vs) (hl : rs.length = ds.length)
    (he : ∀ (i : Nat) (d r : PyData), ds[i]? = some d → rs[i]? = some r → EvE K te ((wipeE es vs).set j (.dat d)) r) : EvF K (tLc wi (gName j) tYes te vs) es rs := .mk fun {G H σ} S {H1} e1 {Q} q =>
  h.1 S e1 fun J H2 e2 hJ Dl hD => by
    have e12 := e1.trans e2
    have hn : H Dl = none := fresh_back e12 hD
    refine ⟨fun i m H' => m = ds.length - i ∧ i ≤ ds.length ∧ Ex H2 H' ∧ ∃ acc, H' Dl = some (.lst acc) ∧ DpAll K (hide Dl (grow G H H')) acc (rs.take i), ⟨ds.length, by simp, Nat.zero_le _, Evl.Ex.new hD, [], upd_same, .nil⟩, ?_⟩
    rintro i m H' ⟨rfl, hi, eH, acc, ha, hda⟩
    have e' : Ex H H' := e12.trans eH
    by_cases hlt : i < ds.length
    · refine .inr ⟨hJ.go i H' (grow_ex.trans eH) hlt, fun H' => ds.length - (i + 1) = ds.length - (i + 1) ∧ i + 1 ≤ ds.length ∧ Ex H2 H' ∧ ∃ acc, H' Dl = some (.lst acc) ∧ DpAll K (hide Dl (grow G H H')) acc (rs.take (i + 1)), fun H3 w => ⟨ds.length - (i + 1), by omega, w⟩, fun x H3 y => ?_⟩
      obtain ⟨rfl, d, hdi, hx⟩ := hJ.yld i x H' H3 (grow_ex.trans eH) hlt y
      have hr : rs[i]? = some rs[i] := List.getElem?_eq_getElem (by omega)
      have S2 := ((S.within hn e' ha).wipe vs).putDat j (hx.up (ex_hide (grow_mono eH) (grow_none hD)))
      have lacc : acc.length ≤ i := by
        rw [dpa_len hda, List.length_take]
        exact Nat.min_le_left _ _
      refine ⟨hj σ (some x), ?_⟩
      rw [tYes_at]
      rw [if_pos rfl]
      refine (he i d _ hdi hr).1 S2 (Evl.Ex.refl _) fun z H5 e5 hz' => ?_
      have a5 : H5 Dl = some (.lst acc) := e5 _ _ ha
      refine ⟨acc, a5, sz_lt (by omega), rfl, hlt, Evl.Ex.mut (eH.trans e5) hD, acc ++ [z], upd_same, ?_⟩
      rw [List.take_add_one, hr, hide_upd]
      exact dpa_snoc (hda.up (hide_mono (grow_mono e5))) (hz'.up (within_ex e' ha))
    · have e : i = ds.length := by omega
      subst e
      refine .inl ⟨hJ.stop H' (grow_ex.trans eH), q Dl acc H' (fresh_back e2 hD) (e2.trans eH) ha ?_⟩
      rw [← hl, List.take_length] at hda
      exact hda

/-! ### truth -/
theorem eb_truL (h : EvX K ta es (.list ds)) : EvB K (tTru K ta) es (!ds.isEmpty) := .mk fun {_ _ _} S {_} e1 {_} q => h.1 S e1 fun x H2 e2 hx => by
  obtain ⟨p, xs, rfl, hs, hd⟩ := dp_lst hx
  refine ⟨_, .inl ⟨xs, hs, rfl⟩, ?_⟩
  have e : xs.isEmpty = ds.isEmpty := by
    cases hd <;> rfl
  rw [e]
  exact q H2 e2
theorem eb_truT (h : EvX K ta es (.tuple ds)) : EvB K (tTru K ta) es (!ds.isEmpty) := .mk fun {_ _ _} S {_} e1 {_} q => h.1 S e1 fun x H2 e2 hx => by
  obtain ⟨p, xs, rfl, hs, hd⟩ := dp_tup hx
  refine ⟨_, .inr (.inl ⟨xs, hs, rfl⟩), ?_⟩
  have e : xs.isEmpty = ds.isEmpty := by
    cases hd <;> rfl
  rw [e]
  exact q H2 e2
theorem eb_truB {b : Bool} (h : EvX K ta es (.bool b)) : EvB K (tTru K ta) es b := .mk fun {_ _ _} S {_} e1 {_} q => h.1 S e1 fun x H2 e2 hx => by
  rw [dp_bl hx]
  exact ⟨b, rfl, q H2 e2⟩
theorem eb_truI {i : Int} (h : EvX K ta es (.int i)) : EvB K (tTru K ta) es (i != 0) := .mk fun {_ _ _} S {_} e1 {_} q => h.1 S e1 fun x H2 e2 hx => by
  rw [dp_int hx]
  exact ⟨_, rfl, q H2 e2⟩
/-- x is None, x is not None -/
def isNon : PyData → Bool
  | .none => true
  | _ => false
theorem ev_isN : EvX K ta es d → EvE K (tOp (fun x y H Q => y = .non ∧ Q (.bl (decide (x = .non))) H) ta (tC .non)) es (.bool (isNon d)) := fun h =>
  ev_op2 h (ev_weak ev_non) fun x y H hx hy Q q => ⟨dp_non hy, by
    have e : decide (x = V.non) = isNon d := by
      cases hx <;> rfl
    rw [e]
    exact q _ fun _ => .bl _⟩

/-! ### xs[k] = ys.pop() -/
theorem w_setPop {i k n : Nat} {z : Int} {xs : List PyData} (hik : i ≠ k) (hi : es[i]? = some (Ent.own (ds ++ [d]))) (hk : es[k]? = some (Ent.own xs)) (hb : EvX K tb (es.set i (.own ds)) (.int z)) (hz : ixN xs.length z = some n)
    (hn : P.nx ((es.set i (.own ds)).set k (.own (xs.set n d)))) : Ws K (tAsg (tBM0 K "list" rPop (tVar i)) (gSub (tVar k) tb rSetL)) es P := .mk fun {G H σ D} S kk => by
  obtain ⟨p, ys, hv, gp, hp, hd⟩ := S.own i _ hi
  have hl := dpa_len hd
  rw [List.length_append] at hl
  have hl : ys.length = ds.length + 1 := hl
  obtain ⟨v, hx, hdv⟩ := dpa_at (i := ds.length) (d := d) hd (by rw [List.getElem?_append_right (Nat.le_refl _), Nat.sub_self]; rfl)
  have hd2 : DpAll K G ys.dropLast ds := by
    have q := dpa_dropLast hd
    rw [List.dropLast_concat] at q
    exact q
  have S2 := S.write hi hv hd2
  have hk2 : (es.set i (.own ds))[k]? = some (Ent.own xs) := by rw [get_set_ne (Ne.symm hik)]; exact hk
  obtain ⟨p2, xs2, hv2, gp2, hp2, hdx⟩ := S2.own k _ hk2
  refine ⟨_, hv, .inl ⟨rfl, ys, .inl (.inl hp)⟩, p, ys, v, rfl, rfl, hp, by rw [hl]; exact hx, ?_⟩
  refine ⟨_, hv2, hb.1 S2 (Evl.Ex.refl _) fun w H3 e3 hw => ?_⟩
  refine ⟨p2, xs2, z, n, rfl, dp_int hw, e3 _ _ hp2, by rw [dpa_len hdx]; exact hz, ?_⟩
  exact kk.nx _ _ _ _ hn (ex_grow S2.ex e3) ((S2.grow e3).write hk2 hv2 (dpa_set n (hdx.up (ex_grow S2.ex e3)) (hdv.up (ex_grow S2.ex e3))))

/-! ### tables of the module: texts to tuples of ints -/
def KTup (K : PySem.W.Frag) (t : Addr) (ns : List Int) : Prop := ∃ (o : Obj) (its : Array Value) (n : Nat), K.lookup t = some o ∧ o.cls = .type "tuple" ∧ o.data = .seq its n ∧ its.size ≤ sizeLine ∧ Vals (ns.map V.int) its.toList
def DTab (K : PySem.W.Frag) (w : World) (a : Addr) (z : Str) (ns : List Int) : Prop := ∃ t, KDct K w a z (.ref t) ∧ KTup K t ns
theorem ev_ixD {w : World} {a : Addr} {z : Str} {ns : List Int} (hb : EvX K tb es (.str z)) (h : DTab K w a z ns) : EvE K (tOp (rIxD K w) (tC (.ref a)) tb) es (.tuple (ns.map PyData.int)) := .mk fun {G H σ} S {H1} e1 {Q} q =>
  hb.1 S e1 fun y H3 e3 hy => by
    obtain ⟨t, hk, ht⟩ := h
    exact ⟨a, z, .ref t, rfl, dp_str hy, hk, q _ H3 e3 (.tup (.inr ht) dpa_mkInts)⟩
theorem dtab_mk {w : World} {a t : Addr} {z : Str} {ns : List Int} {es : Array DictEntry} {n n2 : Nat} {its : Array Value} {dd : Option Addr} {sl : Array (Option Value)} (hl : K.lookup a = some ⟨.type "dict", none, .dict es n, #[]⟩) (hk : PySem.W.KeysLit w.params es.toList)
    (he : PySem.W.nsIn K a z = some (some (.ref t))) (ht : K.lookup t = some ⟨.type "tuple", dd, .seq its n2, sl⟩) (hz : its.size ≤ sizeLine) (hv : Vals (ns.map V.int) its.toList) : DTab K w a z ns :=
  ⟨t, ⟨es, n, _, hl, hk, he, rfl⟩, _, its, n2, ht, rfl, rfl, hz, hv⟩

/-! ### x in [texts] -/
theorem inV_strs {x : Str} : ∀ {ss : List Str}, inV (.str x) (ss.map V.str) = ss.any fun y => y == x
  | [] => rfl
  | s :: ss => by
    show (eqV (.str s) (.str x) || inV (.str x) (ss.map V.str)) = ((s == x) || ss.any fun y => y == x)
    rw [inV_strs]
    rfl
theorem flat_strs : ∀ {ss : List Str}, (ss.map V.str).all flatV = true
  | [] => rfl
  | s :: ss => by
    show (true && (ss.map V.str).all flatV) = true
    rw [flat_strs]
    rfl
theorem dpa_strs {H : Hp} : ∀ {ss : List Str} {xs : List V}, DpAll K H xs (ss.map PyData.str) → xs = ss.map V.str
  | [], _, h => dpa_nil h
  | n :: ns, _, h => by
    obtain ⟨v, r, rfl, a, b⟩ := dpa_cons h
    rw [dp_str a, dpa_strs b]
    rfl
theorem ev_inS {x : Str} {ss : List Str} (ha : EvX K ta es (.str x)) (hb : EvX K tb es (.list (ss.map PyData.str))) : EvE K (tOp (rIn K false) ta tb) es (.bool (ss.any fun y => y == x)) :=
  ev_op2 ha hb fun v y H hv hy Q q => by
    obtain ⟨p, xs, rfl, hs, hd⟩ := dp_lst hy
    rw [dp_str hv]
    rw [dpa_strs hd] at hs
    refine ⟨p, _, rfl, .inl hs, rfl, flat_strs, ?_⟩
    show Q (.bl (inV (.str x) (ss.map V.str))) H
    rw [inV_strs]
    exact q _ fun _ => .bl _

/-! ### the last items, all but the last -/
theorem at_m1 {α : Type} {s : List α} {a : α} : atI (s ++ [a]) (-1) = some a := atI_last s a
theorem at_back {α : Type} {s r : List α} {a : α} {k : Int} (hk : k = -((r.length : Int) + 1)) : atI (s ++ a :: r) k = some a := by
  have hl : (s ++ a :: r).length = s.length + (r.length + 1) := by rw [List.length_append, List.length_cons]
  have e : ixN (s ++ a :: r).length k = some s.length := by
    unfold ixN
    rw [hl, if_neg (by omega), if_pos (by omega)]
    congr 1
    omega
  unfold atI
  rw [e]
  show (s ++ a :: r)[s.length]? = some a
  rw [List.getElem?_append_right (Nat.le_refl _), Nat.sub_self]
  rfl
theorem at_m2 {α : Type} {s : List α} {a b : α} : atI (s ++ [a, b]) (-2) = some a := at_back rfl
theorem at_m1' {α : Type} {s : List α} {a b : α} : atI (s ++ [a, b]) (-1) = some b := by
  have h : s ++ [a, b] = (s ++ [a]) ++ [b] := by simp
  rw [h]
  exact at_m1
theorem at_m3 {α : Type} {s : List α} {a b c : α} : atI (s ++ [a, b, c]) (-3) = some a := at_back rfl
theorem at_m2' {α : Type} {s : List α} {a b c : α} : atI (s ++ [a, b, c]) (-2) = some b := by
  have h : s ++ [a, b, c] = (s ++ [a]) ++ [b, c] := by simp
  rw [h]
  exact at_m2
theorem at_m1'' {α : Type} {s : List α} {a b c : α} : atI (s ++ [a, b, c]) (-1) = some c := by
  have h : s ++ [a, b, c] = (s ++ [a, b]) ++ [c] := by simp
  rw [h]
  exact at_m1
theorem cut_back {s r : List PyData} {k : Int} (hk : k = -(r.length : Int)) (h0 : k < 0) : cutD (s ++ r) none (some k) = s := by
  unfold cutD
  have e : HT.sIx (s ++ r).length (s ++ r).length (some k) = s.length := by
    show (if k < 0 then (k + ((s ++ r).length : Int)).toNat else _) = _
    rw [if_pos h0, List.length_append]
    omega
  rw [e, HT.sIx_none, Nat.sub_zero, List.drop_zero, List.take_left']
  rfl
theorem cut_fix {s : List PyData} {a b : Nat} : cutD s (some (a : Nat)) (some (b : Nat)) = (s.drop a).take (b - a) := by
  unfold cutD
  rw [HT.sIx_nat, HT.sIx_nat]
  by_cases h : a ≤ s.length
  · rw [show min a s.length = a by omega]
    by_cases h2 : b ≤ s.length
    · rw [show min b s.length = b by omega]
    · rw [show min b s.length = s.length by omega, List.take_of_length_le (by rw [List.length_drop]; omega), List.take_of_length_le (by rw [List.length_drop]; omega)]
  · rw [show min a s.length = s.length by omega, List.drop_eq_nil_of_le (Nat.le_refl _), List.drop_eq_nil_of_le (show s.length ≤ a by omega), List.take_nil, List.take_nil]
end
/-! the same rules with the written part named (within a comprehension) -/
theorem pt_tru {X : Cx} {K : PySem.W.Frag} {a : Expr} {ta : TE} (h : X.K = K) (ha : PE X a ta) (he : ∀ whole, isTrue a X.env whole = (do let v ← whole; standAt a.pos; holding [v] (truthy v))) : PT X a (tTru K ta) := by
  subst h
  exact pt_truth ha he
theorem ix_tupK {X : Cx} {K : PySem.W.Frag} (h : X.K = K) : IxR X (rIxT K) := h ▸ ix_tup
theorem ix_listK {X : Cx} {K : PySem.W.Frag} (h : X.K = K) : IxR X (rIxL K) := h ▸ ix_list
theorem op_eqDK {X : Cx} {K : PySem.W.Frag} (h : X.K = K) (hu : X.A.units + 64 < cLine) : OpR X (compareOp .Eq) (rEqD K) := h ▸ op_eqD hu
theorem op_neDK {X : Cx} {K : PySem.W.Frag} (h : X.K = K) (hu : X.A.units + 64 < cLine) : OpR X (compareOp .NotEq) (rNeD K) := h ▸ op_neD hu
theorem call_isiKK {X : Cx} {K : PySem.W.Frag} (h : X.K = K) : CallR X (.builtin "isinstance") (rIsi K) := h ▸ call_isi
theorem call_len_seqK {X : Cx} {K : PySem.W.Frag} (h : X.K = K) : CallR X (.builtin "len") (rLenS K) := h ▸ call_len_seq
theorem ix_kdictK {X : Cx} {K : PySem.W.Frag} {w : World} (h : X.K = K) (h2 : X.w = w) : IxR X (rIxD K w) := h ▸ h2 ▸ ix_kdict
end Pu

/-! rules as data of our own -/
namespace Pr
open PySem PySem.Spec L2 Pu
structure Rf where
  r : Int
  c : Int
  rs : Bool
  cs : Bool
def Rf.d (x : Rf) : PyData := .tuple [.int x.r, .int x.c, .bool x.rs, .bool x.cs]
inductive Rl where
  | num (n : Int)
  | cell (p : Rf)
  | add (a b : Rl)
  | sub (a b : Rl)
  | mul (a b : Rl)
  | pick (a b c : Rl)
  | sum (p q : Rf)
  | most (p q : Rf)
  | look (a : Rl) (p q : Rf) (b : Rl)
namespace Rl
def d : Rl → PyData
  | num n => .tuple [.str "num", .int n]
  | cell p => .tuple [.str "cell", p.d]
  | add a b => .tuple [.str "add", a.d, b.d]
  | sub a b => .tuple [.str "sub", a.d, b.d]
  | mul a b => .tuple [.str "mul", a.d, b.d]
  | pick a b c => .tuple [.str "pick", a.d, b.d, c.d]
  | sum p q => .tuple [.str "sum", p.d, q.d]
  | most p q => .tuple [.str "most", p.d, q.d]
  | look a p q b => .tuple [.str "look", a.d, p.d, q.d, b.d]
def inner : Rl → List Rl
  | num _ => []
  | cell _ => []
  | add a b => [a, b]
  | sub a b => [a, b]
  | mul a b => [a, b]
  | pick a b c => [a, b, c]
  | sum _ _ => []
  | most _ _ => []
  | look a _ _ b => [a, b]
def size : Rl → Nat
  | num _ => 1
  | cell _ => 1
  | add a b => a.size + b.size + 1
  | sub a b => a.size + b.size + 1
  | mul a b => a.size + b.size + 1
  | pick a b c => a.size + b.size + c.size + 1
  | sum _ _ => 1
  | most _ _ => 1
  | look a _ _ b => a.size + b.size + 1
/-- itself, then what stands within it, from the right -/
def outer : Rl → List Rl
  | num n => [num n]
  | cell p => [cell p]
  | add a b => add a b :: (b.outer ++ a.outer)
  | sub a b => sub a b :: (b.outer ++ a.outer)
  | mul a b => mul a b :: (b.outer ++ a.outer)
  | pick a b c => pick a b c :: (c.outer ++ (b.outer ++ a.outer))
  | sum p q => [sum p q]
  | most p q => [most p q]
  | look a p q b => look a p q b :: (b.outer ++ a.outer)
theorem outer_eq (r : Rl) : r.outer = r :: r.inner.reverse.flatMap outer := by
  cases r <;> simp [outer, inner]
theorem outer_len (r : Rl) : r.outer.length = r.size := by
  induction r with
  | num _ => rfl
  | cell _ => rfl
  | sum _ _ => rfl
  | most _ _ => rfl
  | add a b h1 h2 => simp only [outer, size, List.length_cons, List.length_append]; omega
  | sub a b h1 h2 => simp only [outer, size, List.length_cons, List.length_append]; omega
  | mul a b h1 h2 => simp only [outer, size, List.length_cons, List.length_append]; omega
  | pick a b c h1 h2 h3 => simp only [outer, size, List.length_cons, List.length_append]; omega
  | look a p q b h1 h2 => simp only [outer, size, List.length_cons, List.length_append]; omega
theorem size_pos (r : Rl) : 0 < r.size := by
  cases r <;> simp only [size] <;> omega
theorem size_inner (r : Rl) : r.size = (r.inner.map size).sum + 1 := by
  cases r <;> simp [size, inner] <;> omega
theorem imm_d (r : Rl) : imm r.d = true := by
  induction r with
  | num _ => rfl
  | cell _ => rfl
  | sum _ _ => rfl
  | most _ _ => rfl
  | add a b h1 h2 => simp [d, imm, immAll, h1, h2]
  | sub a b h1 h2 => simp [d, imm, immAll, h1, h2]
  | mul a b h1 h2 => simp [d, imm, immAll, h1, h2]
  | pick a b c h1 h2 h3 => simp [d, imm, immAll, h1, h2, h3]
  | look a p q b h1 h2 => simp [d, imm, immAll, h1, h2, Rf.d]
theorem imm_all (rs : List Rl) : immAll (rs.map d) = true := immAll_iff fun x hx => by
  obtain ⟨r, _, rfl⟩ := List.mem_map.mp hx
  exact imm_d r
theorem len_le (W : List Rl) : W.length ≤ (W.map size).sum := by
  induction W with
  | nil => exact Nat.le_refl _
  | cons r W ih =>
    rw [List.length_cons, List.map_cons, List.sum_cons]
    have := size_pos r
    omega
theorem flat_len (W : List Rl) : (W.reverse.flatMap outer).length = (W.map size).sum := by
  rw [List.length_flatMap, List.map_reverse, List.sum_reverse]
  congr 1
  exact List.map_congr_left fun r _ => outer_len r
end Rl
/-- the item of a tuple at a place -/
def gx (ds : List PyData) : PyData → PyData
  | .int k => (atI ds k).getD .none
  | _ => .none
/-! the script's cells -/
def cell (ns : List Int) (k : Nat) : Int := ns.getD k 0
theorem ints_at {ns : List Int} {k : Nat} (h : k < ns.length) : atI (ns.map PyData.int) (k : Nat) = some (.int (cell ns k)) := by
  refine atI_nat ?_
  rw [List.getElem?_map, List.getElem?_eq_getElem h]
  unfold cell
  rw [List.getD_eq_getElem?_getD, List.getElem?_eq_getElem h]
  rfl
/-! ### what stands in a rule's tuple -/
inductive Pt where
  | s (x : Str)
  | i (n : Int)
  | b (x : Bool)
  | rf (x : Rf)
  | rl (r : Rl)
def Pt.d : Pt → PyData
  | .s x => .str x
  | .i n => .int n
  | .b x => .bool x
  | .rf x => x.d
  | .rl r => r.d
def Rl.parts : Rl → List Pt
  | .num n => [.s "num", .i n]
  | .cell p => [.s "cell", .rf p]
  | .add a b => [.s "add", .rl a, .rl b]
  | .sub a b => [.s "sub", .rl a, .rl b]
  | .mul a b => [.s "mul", .rl a, .rl b]
  | .pick a b c => [.s "pick", .rl a, .rl b, .rl c]
  | .sum p q => [.s "sum", .rf p, .rf q]
  | .most p q => [.s "most", .rf p, .rf q]
  | .look a p q b => [.s "look", .rl a, .rf p, .rf q, .rl b]
theorem Rl.d_parts (r : Rl) : r.d = .tuple (r.parts.map Pt.d) := by cases r <;> rfl
theorem Rl.parts_len (r : Rl) : r.parts.length ≤ 5 := by cases r <;> exact Nat.le_of_ble_eq_true rfl
def Rf.parts (x : Rf) : List Pt := [.i x.r, .i x.c, .b x.rs, .b x.cs]
theorem ty_rl (r : Rl) : tyName r.d = "tuple" := by cases r <;> rfl
theorem kb_rl_tuple (r : Rl) : kitB (tyName r.d) "tuple" = some true := by rw [ty_rl]; exact kb_tuple_tuple
theorem kb_rl_bool (r : Rl) : kitB (tyName r.d) "bool" = some false := by rw [ty_rl]; exact kb_tuple_bool
theorem kb_rl_int (r : Rl) : kitB (tyName r.d) "int" = some false := by rw [ty_rl]; exact kb_tuple_int
theorem kb_rl_str (r : Rl) : kitB (tyName r.d) "str" = some false := by rw [ty_rl]; exact kb_tuple_str
/-- how deep the tuples stand -/
def Rl.dep : Rl → Nat
  | .num _ => 1
  | .cell _ => 2
  | .add a b => max a.dep b.dep + 1
  | .sub a b => max a.dep b.dep + 1
  | .mul a b => max a.dep b.dep + 1
  | .pick a b c => max a.dep (max b.dep c.dep) + 1
  | .sum _ _ => 2
  | .most _ _ => 2
  | .look a _ _ b => max a.dep b.dep + 1
theorem Rl.dep_pos (r : Rl) : 1 ≤ r.dep := by cases r <;> simp only [Rl.dep] <;> omega
theorem Rl.dep_size (r : Rl) : r.dep ≤ r.size + 1 := by
  induction r with
  | num _ => simp only [Rl.dep, Rl.size]; omega
  | cell _ => simp only [Rl.dep, Rl.size]; omega
  | sum _ _ => simp only [Rl.dep, Rl.size]; omega
  | most _ _ => simp only [Rl.dep, Rl.size]; omega
  | add a b h1 h2 => have := a.size_pos; have := b.size_pos; simp only [Rl.dep, Rl.size]; omega
  | sub a b h1 h2 => have := a.size_pos; have := b.size_pos; simp only [Rl.dep, Rl.size]; omega
  | mul a b h1 h2 => have := a.size_pos; have := b.size_pos; simp only [Rl.dep, Rl.size]; omega
  | pick a b c h1 h2 h3 => have := a.size_pos; have := b.size_pos; have := c.size_pos; simp only [Rl.dep, Rl.size]; omega
  | look a p q b h1 h2 => have := a.size_pos; have := b.size_pos; simp only [Rl.dep, Rl.size]; omega
def Pt.dep : Pt → Nat
  | .s _ => 0
  | .i _ => 0
  | .b _ => 0
  | .rf _ => 1
  | .rl r => r.dep
theorem Rl.parts_dep (r : Rl) : ∀ p ∈ r.parts, p.dep < r.dep := by
  cases r with
  | num n => simp [Rl.parts, Pt.dep, Rl.dep]
  | cell p => simp [Rl.parts, Pt.dep, Rl.dep]
  | sum p q => simp [Rl.parts, Pt.dep, Rl.dep]
  | most p q => simp [Rl.parts, Pt.dep, Rl.dep]
  | add a b => simp [Rl.parts, Pt.dep, Rl.dep]; omega
  | sub a b => simp [Rl.parts, Pt.dep, Rl.dep]; omega
  | mul a b => simp [Rl.parts, Pt.dep, Rl.dep]; omega
  | pick a b c => simp [Rl.parts, Pt.dep, Rl.dep]; omega
  | look a p q b => have := a.dep_pos; simp [Rl.parts, Pt.dep, Rl.dep]; omega
theorem Pt.imm_d (p : Pt) : imm p.d = true := by
  cases p with
  | rl r => exact r.imm_d
  | _ => rfl
end Pr

/-! own layer: sets of tuples of ints of any sign, put in order -/
namespace Pu
open PySem PySem.Spec L2
open Evl (Ex fresh_back sz_of sz_lt ex_l ex_t)
open PyProof.Rows

/-! ### the order of pairs, as a number -/
/-- two ints, the second one small -/
def Pr2 (ns : List Int) : Prop := ∃ x y : Int, ns = [x, y] ∧ -500 < y ∧ y < 500
def rk2 : List Int → Int
  | [x, y] => x * 1000 + y
  | _ => 0
theorem rk2_lt {x y u v : Int} (h1 : -500 < y ∧ y < 500) (h2 : -500 < v ∧ v < 500) (h : x < u) : rk2 [x, y] < rk2 [u, v] := by
  show x * 1000 + y < u * 1000 + v
  omega
section
variable {prog : Program} {w : World} {A : Around} {E : Value → Shared → Prop} {s : Shared}
theorem lex_two {b : Bool} {xs ys : List Value} {ns ms : List Int} {Q : Bool → Shared → Prop} (hx : IntsAre xs ns) (hy : IntsAre ys ms) (p1 : Pr2 ns) (p2 : Pr2 ms) (h : Q (decide (rk2 ns < rk2 ms)) s) : PySem.W.KatLex prog w A b false Q (xs.zip ys) 0 s := by
  obtain ⟨x, y, rfl, hy1⟩ := p1
  obtain ⟨u, v, rfl, hv1⟩ := p2
  cases hx with
  | cons _ t hx =>
    cases hx with
    | cons _ t2 hx =>
      cases hx
      cases hy with
      | cons _ r hy =>
        cases hy with
        | cons _ r2 hy =>
          cases hy
          refine PySem.W.kat_cons (wpAny_eqBool_int ?_)
          by_cases e : x = u
          · subst e
            rw [beq_self_eq_true]
            refine PySem.W.kat_yes (PySem.W.kat_cons (wpAny_eqBool_int ?_))
            have d : decide (rk2 [x, y] < rk2 [x, v]) = decide (y < v) := decide_eq_decide.mpr (by
              show x * 1000 + y < x * 1000 + v ↔ y < v
              omega)
            rw [d] at h
            by_cases e2 : y = v
            · subst e2
              rw [beq_self_eq_true]
              rw [decide_eq_false (Int.lt_irrefl y)] at h
              exact PySem.W.kat_yes (PySem.W.kat_nil h)
            · rw [show (y == v) = false from beq_eq_false_iff_ne.mpr e2]
              exact PySem.W.kat_no (TS.oneLt_ints _ h)
          · rw [show (x == u) = false from beq_eq_false_iff_ne.mpr e]
            refine PySem.W.kat_no (TS.oneLt_ints _ ?_)
            have d : decide (rk2 [x, y] < rk2 [u, v]) = decide (x < u) := decide_eq_decide.mpr (by
              show x * 1000 + y < u * 1000 + v ↔ x < u
              omega)
            rw [d] at h
            exact h
/-- pairs that stand in the heap -/
def Prs (h : Heap) (vs : List Value) : Prop := ∀ v ∈ vs, ∃ ns, TS.TupInts h v ns ∧ Pr2 ns
theorem prs_firsts {h : Heap} : ∀ {vs : List Value}, Prs h vs → ∃ fs, PySem.W.KatTups h vs fs ∧ fs.length = vs.length ∧ ∀ f ∈ fs, ∃ n t, f = Value.int n t
  | [], _ => ⟨[], .nil, rfl, fun f hf => nomatch hf⟩
  | v :: vs, x => by
    obtain ⟨fs, k, hl, hi⟩ := prs_firsts fun u hu => x u (List.mem_cons_of_mem _ hu)
    obtain ⟨ns, ⟨a, xs, rfl, ⟨o, ho, hc, n, hd⟩, i⟩, p, q, rfl, _⟩ := x v List.mem_cons_self
    obtain ⟨y, ys, e, m, t, hy⟩ : ∃ y ys, xs.toList = y :: ys ∧ ∃ m t, y = Value.int m t := by
      generalize xs.toList = l at i
      cases i with
      | cons d t i => exact ⟨_, _, rfl, _, _, rfl⟩
    refine ⟨y :: fs, .cons ho hc hd ?_ k, by rw [List.length_cons, List.length_cons, hl], fun f hf => ?_⟩
    · have z := congrArg (fun l : List Value => l[0]?) e
      simpa using z
    · rcases List.mem_cons.mp hf with rfl | hf
      · exact ⟨m, t, hy⟩
      · exact hi f hf
theorem kind_prs {vs : List Value} (h2 : 2 ≤ vs.length) (x : Prs s.heap vs) (r : Value → Int) (hr : ∀ v ∈ vs, ∀ ns, TS.TupInts s.heap v ns → r v = rk2 ns) (Q : SortKind → Shared → Prop) (h : ∀ κ, TS.Cmp prog w A s κ (pairsOf vs) r → Q κ s) :
    wpAny (model prog w) A (keyKind' vs.toArray) Q E s := by
  obtain ⟨fs, k, hl, hi⟩ := prs_firsts x
  refine PySem.W.kat_kind (T := .type "int") k (by omega) (fun f hf => ?_) rfl (h _ fun p q hp hq Q' E' hQ => ?_)
  · obtain ⟨n, t, rfl⟩ := hi f hf
    exact .of_pure rfl
  rw [pairsOf_toList] at hp hq
  have mp := (mem_zip_self hp).2
  have mq := (mem_zip_self hq).2
  obtain ⟨ns, tp, bp⟩ := x _ mp
  obtain ⟨ms, tq, bq⟩ := x _ mq
  rw [hr _ mp _ tp, hr _ mq _ tq] at hQ
  obtain ⟨a, xs, e1, ⟨o, ho, hc, n, hd⟩, i⟩ := tp
  obtain ⟨b, ys, e2, ⟨o', ho', hc', n', hd'⟩, i'⟩ := tq
  rw [e1, e2]
  refine PySem.W.kat_lt ho hd ho' hd' ?_
  have l1 : xs.size = 2 := by
    have := i.length
    obtain ⟨_, _, rfl, _⟩ := bp
    simpa using this
  have l2 : ys.size = 2 := by
    have := i'.length
    obtain ⟨_, _, rfl, _⟩ := bq
    simpa using this
  rw [l1, l2]
  exact lex_two i i' bp bq hQ
theorem Prs.keeps {h h' : Heap} {vs : List Value} (x : Prs h vs) (k : ∀ b o, h.get? b = some o → o.cls = .type "tuple" → h'.get? b = some o) : Prs h' vs := fun v hv => by
  obtain ⟨ns, t, p⟩ := x v hv
  exact ⟨ns, t.keeps k, p⟩
/-- xs.sort(), xs a list of pairs -/
theorem sort_prs {a : Addr} {vs : List Value} {n : Nat} {Q : Value → Shared → Prop} (ho : s.heap.get? a = some (seqObj "list" vs.toArray n)) (h64 : vs.length < 64) (x : Prs s.heap vs)
    (h : ∀ out : Array Value, out.toList.Perm vs → out.toList.Pairwise (fun u v => rk2 (TS.intsOf s.heap u) ≤ rk2 (TS.intsOf s.heap v)) → Q .none { s with heap := sortedHeap s.heap a vs out }) :
    wpAny (model prog w) A (call (.builtin "list.sort") [.ref a]) Q E s := by
  refine wpAny_call_entry slot_list_sort ⟨_, ho, rfl⟩ entry_list_sort ?_ (args_list_sort _)
  have keep : ∀ b o, s.heap.get? b = some o → o.cls = .type "tuple" → (TS.midHeap s.heap a vs).get? b = some o := fun b o e hc => TS.midHeap_old (fun z => by
    rw [z, ho] at e
    cases e
    injection hc with hc
    exact absurd hc (by decide)) e
  refine SK.plain_sort (r := fun v => rk2 (TS.intsOf s.heap v)) ho h64 (fun h2 R hR => kind_prs (s := { s with heap := TS.midHeap s.heap a vs }) h2 (x.keeps keep) _ (fun v hv ns t => ?_) R hR) fun ps out h1 h2 h3 => ⟨_, rfl, ?_⟩
  · obtain ⟨ns0, t0, _⟩ := x v hv
    show rk2 (TS.intsOf s.heap v) = rk2 ns
    rw [t0.ints, ← (t0.keeps keep).ints, t.ints]
  · obtain ⟨p, q⟩ := TS.out_rank (r := fun v => rk2 (TS.intsOf s.heap v)) h1 h2 h3
    exact h out p q

/-! ### sorted of a set of pairs -/
theorem refs_of {L : List (Addr × List Int)} : ∀ {vs : List Value}, (∀ v ∈ vs, ∃ q ∈ L, v = Value.ref q.1) → ∃ M : List (Addr × List Int), vs = M.map (fun q => Value.ref q.1) ∧ ∀ q ∈ M, q ∈ L
  | [], _ => ⟨[], rfl, fun q h => nomatch h⟩
  | v :: vs, h => by
    obtain ⟨q, hq, rfl⟩ := h v List.mem_cons_self
    obtain ⟨M, rfl, hM⟩ := refs_of fun u hu => h u (List.mem_cons_of_mem _ hu)
    exact ⟨q :: M, rfl, List.forall_mem_cons.mpr ⟨hq, hM⟩⟩
theorem refs_perm {h : Heap} {P : Program} {w : World} {L M : List (Addr × List Int)} (nd : (L.map (·.2)).Nodup) (ht : ∀ q ∈ L, IsT P w h q.2 q.1) (hM : ∀ q ∈ M, q ∈ L) (pm : (M.map fun q => Value.ref q.1).Perm (L.map fun q => Value.ref q.1)) : M.Perm L := by
  have one : ∀ q ∈ L, ∀ r ∈ L, q.1 = r.1 → q = r := fun q hq r hr e => by
    have h1 := ht q hq
    rw [e] at h1
    exact Prod.ext e (h1.inj (ht r hr))
  have nL : L.Nodup := nodup_of_map nd
  have nR : (L.map fun q => Value.ref q.1).Nodup := List.pairwise_map.mpr (nL.imp_of_mem fun {q r} hq hr hne e => hne (one q hq r hr (Value.ref.inj e)))
  refine (List.perm_ext_iff_of_nodup (nodup_of_map (pm.nodup_iff.mpr nR)) nL).mpr fun q => ⟨hM q, fun hq => ?_⟩
  obtain ⟨r, hr, e⟩ := List.mem_map.mp (pm.mem_iff.mpr (List.mem_map.mpr ⟨q, hq, rfl⟩))
  rw [← one r (hM r hr) q hq (Value.ref.inj e)]
  exact hr
theorem sorted_prs {a : Addr} {L : List (Addr × List Int)} {es : Array (Int × Value)} {ep : Nat} {t : SetTable} {Q : Value → Shared → Prop} (R : SetTR prog w s.heap a L es ep t) (hh : A.handled = none) (hp : ∀ q ∈ L, Pr2 q.2)
    (hQ : ∀ (s' : Shared) (p : Addr) (out : Array Value) (c : Nat) (M : List (Addr × List Int)), (∀ b o, s.heap.get? b = some o → s'.heap.get? b = some o) → s'.gens = s.gens → s'.os = s.os → s.heap.objs.size ≤ p →
      s'.heap.get? p = some (seqObj "list" out c) → out.toList = M.map (fun q => Value.ref q.1) → M.Perm L → M.Pairwise (fun q r => rk2 q.2 ≤ rk2 r.2) → Q (.ref p) s') :
    wpAny (model prog w) A (call (.builtin "sorted") [.ref a]) Q E s := by
  obtain ⟨o, ho, hex, hd⟩ := R.ob
  have few := R.few
  have sz := R.size
  refine Calls.call_function_entry kind_sorted plain_sorted entry_sorted (args_sorted1 _) ?_
  unfold Builtin.«sorted»
  refine wpAny_bind (m := checkCount "sorted" 1 1 _) (wpAny_pure ?_)
  refine wpAny_bind (collect_set (A := A.in1) hh ⟨o, ho, hex.1, hd⟩ R.fits (by unfold scanBound; omega) R.tab.ris R.led fun s1 vs k1 hz g1 o1 pm => ?_)
  have hes : es.toList.map (·.2) = L.map fun q => Value.ref q.1 := by rw [R.rows, rowsOf, List.map_map]; rfl
  rw [hes] at pm
  have hvl : vs.length < 64 := by rw [pm.length_eq, List.length_map]; exact few
  refine wpAny_bind (wpAny_newList ?_ (by rw [sizeLine_eq]; omega))
  generalize hs2 : ({ s1 with heap := s1.heap.push (seqObj "list" vs.toArray 0) } : Shared) = s2
  have h2 : s2.heap = s1.heap.push (seqObj "list" vs.toArray 0) := by rw [← hs2]
  have hoL : s2.heap.get? s1.heap.objs.size = some (seqObj "list" vs.toArray 0) := by rw [h2]; exact Heap.get?_push_size _ rfl
  have tk : ∀ q ∈ L, TS.TupInts s2.heap (.ref q.1) q.2 := fun q hq => tupInts_of (P := prog) (w := w) (isT_keep (R.tup q hq) fun b u e => by rw [h2]; exact Heap.get?_push_of_some _ (k1 b u e))
  have x : Prs s2.heap vs := fun v hv => by
    obtain ⟨q, hq, rfl⟩ := List.mem_map.mp (pm.mem_iff.mp hv)
    exact ⟨q.2, tk q hq, hp q hq⟩
  refine wpAny_bind (wpAny_holding (sort_prs (s := s2) hoL hvl x fun out a1 a2 => ?_))
  obtain ⟨c, hc⟩ := sortedHeap_at (vs := vs) (out := out) hoL
  obtain ⟨M, e', hM⟩ := refs_of (L := L) (vs := out.toList) fun v hv => by
    obtain ⟨q, hq, e⟩ := List.mem_map.mp (pm.mem_iff.mp (a1.mem_iff.mp hv))
    exact ⟨q, hq, e.symm⟩
  have pL := refs_perm R.nd R.tup hM (by rw [← e']; exact a1.trans pm)
  have pw : M.Pairwise (fun q r => rk2 q.2 ≤ rk2 r.2) := by
    rw [e'] at a2
    refine (List.pairwise_map.mp a2).imp_of_mem fun {q r} hq hr hle => ?_
    rw [(tk q (hM q hq)).ints, (tk r (hM r hr)).ints] at hle
    exact hle
  subst hs2
  refine wpAny_pure ⟨_, rfl, hQ _ s1.heap.objs.size out c M (fun b u e => ?_) g1 o1 hz hc e' pL pw⟩
  have lt := Heap.lt_size (k1 b u e)
  show (sortedHeap (s1.heap.push (seqObj "list" vs.toArray 0)) s1.heap.objs.size vs out).get? b = some u
  rw [sortedHeap_old (Nat.ne_of_lt lt) (by rw [size_push']; exact Nat.lt_succ_of_lt lt)]
  exact Heap.get?_push_of_some _ (k1 b u e)
end
section
variable {X : Cx}
/-- sorted(set), the set one of pairs -/
def rSortP (K : PySem.W.Frag) (P : Program) (w : World) : List V → Hp → VK → Prop := fun vs H Q => ∃ (a : Addr) (L : List (Addr × List Int)), vs = [V.ref a] ∧ H a = some (SetTO P w a L) ∧ (∀ p ∈ L, SqT K H p.1 (p.2.map V.int) ∧ Pr2 p.2) ∧
  ∀ (M : List (Addr × List Int)) (p : Addr), M.Perm L → (M.map (·.2)).Nodup → M.length < 64 → M.Pairwise (fun q r => rk2 q.2 ≤ rk2 r.2) → H p = none → Q (.ref p) (upd H p (.lst (M.map fun q => V.ref q.1)))
theorem cr_sortP (hc : X.calm = true) : CallR X (.builtin "sorted") (rSortP X.K X.prog X.w) := by
  intro pins s σ H vs us Q I r h
  obtain ⟨a, L, rfl, ha, hk, q⟩ := h
  have R0 : SetT0 X.prog X.w s.heap a L := (I.hok a _ ha).1
  obtain ⟨es, ep, t, R⟩ := R0.full fun p hp => I.isT (hk p hp).1
  rw [Vals.ref1 r]
  refine sorted_prs R (I.ok.hd hc) (fun p hp => (hk p hp).2) fun s' p out c M k g o hp hg hout pm pw => ?_
  have hf : M.length < 64 := by rw [pm.length_eq]; exact R.few
  have J : Inv X pins σ (upd H p (.lst (M.map fun q => V.ref q.1))) { s with heap := s'.heap, gens := s'.gens, drawn := s'.drawn, toks := s'.toks } :=
    I.call (ch := []) (Un.laid k hp (I.hok.fresh hp)) (I.hok.laid k hp ⟨by rw [List.length_map, sizeLine_eq]; omega, out.toList, c, by rw [hout]; exact vals_of_refs M, hg⟩) (by rw [g]; exact I.bare) (fun _ z => nomatch z)
  have e : s' = { s with heap := s'.heap, gens := s'.gens, drawn := s'.drawn, toks := s'.toks } := by
    cases s'
    cases s
    cases o
    rfl
  rw [e]
  exact ⟨.ref p, _, J, rfl, q M p pm ((pm.map (·.2)).nodup_iff.mpr R.nd) hf pw (I.hok.fresh hp)⟩
/-- found.add(place) -/
theorem addT_ok {pins : List (Addr × Obj)} {σ : L2.St} {H : Hp} {s : Shared} {E : Value → Shared → Prop} {D x : Addr} {L : List (Addr × List Int)} {k : List Int} {Q : Value → Shared → Prop} (I : Inv X pins σ H s) (hu : X.A.units + 64 < cLine)
    (hD : H D = some (SetTO X.prog X.w D L)) (hL : ∀ p ∈ L, SqT X.K H p.1 (p.2.map V.int)) (hx : SqT X.K H x (k.map V.int)) (few : L.length + 1 < 64)
    (h : ∀ L' s', (k ∈ L.map (·.2) → L' = L) → (k ∉ L.map (·.2) → L'.Perm ((x, k) :: L)) → Inv X pins σ (upd H D (SetTO X.prog X.w D L')) s' → Q .none s') :
    wpAny (model X.prog X.w) X.A (call (.builtin "set.add") [.ref D, .ref x]) Q E s := by
  have R0 : SetT0 X.prog X.w s.heap D L := (I.hok D _ hD).1
  obtain ⟨es, ep, t, R⟩ := R0.full fun p hp => I.isT (hL p hp)
  have hxT := I.isT hx
  have hu1 : X.A.in1.units < cLine := by show X.A.units + 1 < cLine; omega
  obtain ⟨o, ho, hex, hd⟩ := R.ob
  refine wpAny_call_entry PySem.F.slot_set_add ⟨o, ho, hex.1⟩ PySem.F.entry_set_add ?_ (PySem.F.args_set_add_2 _ _)
  unfold Builtin.«set.add» Builtin.Frozenset.oneOther
  simp only [List.isEmpty_nil, bind_assoc]
  unfold Builtin.Frozenset.addrOf setAdd
  refine wpAny_bind (wpAny_pure ?_)
  try dsimp only
  refine wpAny_bind (wpAny_pure ?_)
  try dsimp only
  refine wpAny_bind (wpAny_holding (wpAny_bind (wpAny_pyHash_tuple hu1 hxT ?_)))
  refine add_at (s := { s with toks := s.toks + (k.length + 1) }) R hxT hu1 few fun b h' L' es' ep' t' sb R' c1 c2 => ?_
  show wpAny _ _ (ret Value.none) _ _ _
  refine wpAny_pure ⟨_, rfl, h L' _ c1 c2 (I.write (e := D) (t' := s.toks + (k.length + 1)) (by rw [hD]; trivial) (.inl rfl) (fun b u hb hu => (sb.2 b hb).trans hu) ?_ (setTO_new R'.t0))⟩
  obtain ⟨o', ho', _⟩ := R'.ob
  exact ⟨o', ho'⟩
end
end Pu

/-! own layer: a set of tuples of ints by a comprehension with two sources -/
namespace Pu
open PySem PySem.Spec L2
open Evl (Ex fresh_back sz_of sz_lt ex_l ex_t)
open PyProof.Rows

abbrev scE (e a j a1 j1 : Expr) (c c1 : List Expr) (sc : Scope) (p : Pos) : Expr := .SetComp e [⟨a, j, c, 0⟩, ⟨a1, j1, c1, 0⟩] sc p
abbrev okAll (c : List Expr) (env : Env) : Sem Bool := forIn c true fun x r => if r = true then do let ok ← isTrue x env (eval x env); pure (ForInStep.yield ok) else pure (ForInStep.yield r)
section
variable (e a j a1 j1 : Expr) (c c1 : List Expr) (sc : Scope) (p : Pos) (it acc : Value) (env : Env)
theorem scTurn0 : compTurn (scE e a j a1 j1 c c1 sc p) 0 it acc env = (standAt j.pos >>= fun _ => pyNext it >>= fun r => match r with
    | none => pure (.done .next)
    | some v => letOwnedTupleGo a it v >>= fun _ => assign a env v >>= fun _ => okAll c env >>= fun ok =>
      if ok = true then eval j1 env >>= fun x => standAt j1.pos >>= fun _ => foldedSetIterable j1 env x >>= fun x => holding [x] (pyIter x) >>= fun i =>
        runOwn (.compStart (scE e a j a1 j1 c c1 sc p) 1 i acc env) env >>= fun _ => again (.compLoop (scE e a j a1 j1 c c1 sc p) 0 it acc env)
      else again (.compLoop (scE e a j a1 j1 c c1 sc p) 0 it acc env)) := by rfl
theorem scTurn1 : compTurn (scE e a j a1 j1 c c1 sc p) 1 it acc env = (standAt j1.pos >>= fun _ => pyNext it >>= fun r => match r with
    | none => pure (.done .next)
    | some v => letOwnedTupleGo a1 it v >>= fun _ => assign a1 env v >>= fun _ => okAll c1 env >>= fun ok =>
      if ok = true then (eval e env >>= fun x => standAt e.pos >>= fun _ => call (.builtin "set.add") [acc, x] >>= fun _ => pure ()) >>= fun _ => again (.compLoop (scE e a j a1 j1 c c1 sc p) 1 it acc env)
      else again (.compLoop (scE e a j a1 j1 c c1 sc p) 1 it acc env)) := by rfl
end
/-- what is asked behind an item of the inner source -/
def inTurn (P : Program) (w : World) (K : PySem.W.Frag) (D : Addr) (g1 : TG) (tt1 : TT) (te : TE) (vs1 : List Nat) (σ : L2.St) (Nx1 : Hp → Prop) (x : V) (H : Hp) : Prop :=
  g1 x (wipe σ vs1) H fun σ3 H5 => wipe σ3 vs1 = wipe σ vs1 ∧ tt1 σ3 H5 fun b H6 => if b = true then te σ3 H6 fun y H7 => ∃ (t : Addr) (k : List Int) (L : List (Addr × List Int)), y = .ref t ∧ SqT K H7 t (k.map V.int) ∧ H7 D = some (SetTO P w D L) ∧
    (∀ q ∈ L, SqT K H7 q.1 (q.2.map V.int)) ∧ L.length + 1 < 64 ∧ ∀ L', (k ∈ L.map (·.2) → L' = L) → (k ∉ L.map (·.2) → L'.Perm ((t, k) :: L)) → Nx1 (upd H7 D (SetTO P w D L')) else Nx1 H6
def inLoop (P : Program) (w : World) (K : PySem.W.Frag) (D : Addr) (g1 : TG) (tt1 : TT) (te : TE) (vs1 : List Nat) (σ : L2.St) (Nx : Hp → Prop) (J : It) (H : Hp) : Prop :=
  ∃ W : Nat → Nat → Hp → Prop, (∃ m, W 0 m H) ∧ ∀ i m H, W i m H → (J.stop i H ∧ Nx H) ∨ (J.go i H ∧ ∃ Nx1 : Hp → Prop, (∀ H', Nx1 H' → ∃ k, k < m ∧ W (i + 1) k H') ∧ ∀ x H', J.yld i H x H' → inTurn P w K D g1 tt1 te vs1 σ Nx1 x H')
section
variable {X : Cx} {s0 : Shared} {H0 : Hp} {scope : Scope} {ce : Env} {fp : List Addr} {e a j a1 j1 : Expr} {c c1 : List Expr} {p : Pos} {g1 : TG} {tt1 : TT} {te : TE} {vs1 : List Nat}
/-- the inner source's loop -/
theorem sc2_in {pn : List (Addr × Obj)} {i1 : Addr} {f1 : List Addr} {tn1 : Nat → Heap → Prop} {J1 : It} {H : Hp} {s : Shared} {σ : L2.St} {D : Addr} {Nx : Hp → Prop} {R : Result → Shared → Prop} (hc : X.calm = true) (hu : X.A.units + 64 < cLine)
    (pg : PG (X.blk s0 H0 scope ce fp) a1 g1) (pt : PTs (X.blk s0 H0 scope ce fp) c1 tt1) (pe : PE (X.blk s0 H0 scope ce fp) e te) (T : Turn X.prog X.w X.K a1 J1 f1 i1 tn1) (I : Inv (X.blk s0 H0 scope ce fp) pn σ H s) (st : tn1 0 s.heap)
    (hf : ∀ b ∈ f1, FpOk (X.blk s0 H0 scope ce fp) pn H b) (h : inLoop X.prog X.w X.K D g1 tt1 te vs1 σ Nx J1 H) (fin : ∀ H' s', Inv (X.blk s0 H0 scope ce fp) pn (wipe σ vs1) H' s' → Nx H' → R (.ok .next) s') :
    codeAny (model X.prog X.w) X.A (.compLoop (scE e a j a1 j1 c c1 scope p) 1 (.ref i1) (.ref D) ce) R s := by
  obtain ⟨W, ⟨m1, w1⟩, turn⟩ := h
  have fq : ∀ {H' : Hp}, (∀ b ∈ f1, H' b = none) → ∀ b ∈ f1, FpOk (X.blk s0 H0 scope ce fp) pn H' b := fun n b hb => ⟨n b hb, (hf b hb).2⟩
  refine codeAny_loop rfl (fun n s' => ∃ i H', Inv (X.blk s0 H0 scope ce fp) pn (wipe σ vs1) H' s' ∧ tn1 i s'.heap ∧ (∀ b ∈ f1, H' b = none) ∧ W i n H') (fun n s2 ⟨i, H2, I2, st2, n2, w2⟩ => ?_) m1
    ⟨0, H, I.weak (wipe_length _ _) (fun q v z => (wipe_some z).1), st, fun b hb => (hf b hb).1, w1⟩
  show wpAny _ X.A ((compTurn (scE e a j a1 j1 c c1 scope p) 1 (.ref i1) (.ref D) ce).onRaise (fun x => do noteFrame x ce; theTreesLotGoes x)) _ _ s2
  refine wpAny_noted ?_
  rw [scTurn1]
  refine wpAny_bind (wpAny_standAt (wpAny_bind ?_))
  rcases turn i n H2 w2 with ⟨stop, nx⟩ | ⟨go, Nx1, hN, step⟩
  · refine thnF (T.done (X.blk s0 H0 scope ce fp) rfl rfl rfl hc i pn s2 _ H2 (fun _ _ => False) I2 (fq n2) st2 stop) fun r s3 ⟨hr, I3⟩ => ?_
    subst hr
    exact wpAny_pure (fin H2 s3 I3 nx)
  refine thnF (T.item (X.blk s0 H0 scope ce fp) rfl rfl rfl hc i pn s2 _ H2 (fun _ _ => False) I2 (fq n2) st2 go) fun r s3 ⟨u, hr, h3⟩ => ?_
  subst hr
  refine wpAny_bind (thnF h3 fun _ s4 ⟨x, H4, I4, r4, y4, st4, n4⟩ => ?_)
  have I4' := I4.pinned (fq n4) (T.obj _ _ st4)
  refine wpAny_bind (thnF (pg.run _ s4 _ H4 x u _ I4' r4 (step x H4 y4)) fun _ s5 ⟨σ5, H5, I5, hw5, q5⟩ => ?_)
  refine wpAny_bind (thnF (pt.run _ s5 σ5 H5 _ I5 q5) fun b s6 ⟨H6, I6, q6⟩ => ?_)
  have back : ∀ {s' : Shared} {H' : Hp}, Inv (X.blk s0 H0 scope ce fp) (pn ++ pinsAt f1 s4.heap) σ5 H' s' → Nx1 H' → ∃ k, k < n ∧ ∃ i H', Inv (X.blk s0 H0 scope ce fp) pn (wipe σ vs1) H' s' ∧ tn1 i s'.heap ∧ (∀ b ∈ f1, H' b = none) ∧ W i k H' := fun {s' H'} I' nx => by
    obtain ⟨k, hk, w'⟩ := hN H' nx
    have pin : ∀ b ∈ f1, ∀ o, s4.heap.get? b = some o → s'.heap.get? b = some o ∧ H' b = none := fun b hb o z => by
      have q := I'.pin (b, o) (List.mem_append_right _ (List.mem_append_right _ (mem_pinsAt hb z)))
      exact ⟨q.1, q.2.1⟩
    refine ⟨k, hk, i + 1, H', I'.unpinned.weak (by rw [← hw5, wipe_length]) (fun q v z => by rw [← hw5] at z; exact (wipe_some z).1), T.keep _ _ _ st4 fun b hb o z => (pin b hb o z).1, fun b hb => ?_, w'⟩
    obtain ⟨o, z, _⟩ := T.obj _ _ st4 b hb
    exact (pin b hb o z).2
  cases b with
  | false => exact wpAny_pure ⟨rfl, back I6 q6⟩
  | true =>
    refine wpAny_bind (wpAny_bind (thnF (pe.run _ s6 σ5 H6 _ I6 q6) fun z s7 ⟨y, H7, I7, r7, t, k, L, ey, hT, hD, hL, hz, nx⟩ => ?_))
    subst ey
    cases r7
    refine wpAny_bind (wpAny_standAt (wpAny_bind ?_))
    exact addT_ok (X := X.blk s0 H0 scope ce fp) I7 hu hD hL hT hz fun L' s8 h1 h2 I8 => wpAny_pure (wpAny_pure ⟨rfl, back I8 (nx L' h1 h2)⟩)

/-- the inner source's start -/
theorem sc2_start {R : Result → Shared → Prop} {s : Shared} {A : Around} {P : Program} {w : World} {sc : Scope} {i1 acc : Value} {env : Env} (h0 : codeAny (model P w) A (.compLoop (scE e a j a1 j1 c c1 sc p) 1 i1 acc env) R s)
    (hs : ∀ (Q : Value → Shared → Prop) (E : Value → Shared → Prop), Q i1 s → wpAny (model P w) A (pyIter i1) Q E s) : codeAny (model P w) A (.compStart (scE e a j a1 j1 c c1 sc p) 1 i1 acc env) R s := by
  refine codeAny_of_tree ?_
  show wpAny _ _ ((compStart (scE e a j a1 j1 c c1 sc p) 1 i1 acc env).onRaise (fun x => do noteFrame x env; standAt theWindowsPlace)) _ _ s
  refine wpAny_notedAt ?_
  unfold compStart
  show wpAny _ _ (ask >>= _) _ _ s
  refine wpAny_bind (wpAny_askSetting (wpAny_ite ?_))
  split
  · first
      | exact wpAny_bind (wpAny_pure (wpAny_pure ⟨rfl, h0⟩))
      | exact wpAny_pure ⟨rfl, h0⟩
  · refine wpAny_bind (wpAny_rule ?_)
    show wpAny _ _ (standAt j1.pos >>= _) _ _ s
    exact wpAny_bind (wpAny_standAt (wpAny_bind (hs _ _ (wpAny_pure ⟨rfl, h0⟩))))
def tSc2 (P : Program) (w : World) (K : PySem.W.Frag) (wi : TI) (g : TG) (tt : TT) (wi1 : TI) (g1 : TG) (tt1 : TT) (te : TE) (vs vs1 : List Nat) : TE := fun σ H Q => wi σ H fun J H1 => ∀ D, H1 D = none →
  ∃ W : Nat → Nat → Hp → Prop, (∃ m, W 0 m (upd H1 D (SetTO P w D []))) ∧ ∀ i m H, W i m H → (J.stop i H ∧ Q (.ref D) H) ∨ (J.go i H ∧ ∃ Nx : Hp → Prop, (∀ H', Nx H' → ∃ k, k < m ∧ W (i + 1) k H') ∧ ∀ x H', J.yld i H x H' →
    g x (wipe σ vs) H' fun σ2 H2 => wipe σ2 vs = wipe σ vs ∧ tt σ2 H2 fun b H3 => if b = true then wi1 σ2 H3 (inLoop P w K D g1 tt1 te vs1 σ2 Nx) else Nx H3)
theorem pe_sc2 {own : List (Str × Nat)} {wi wi1 : TI} {g : TG} {tt : TT} (hc : X.calm = true) (hN : X.N.Nodup) (hu : X.A.units + 64 < cLine) (hi : PI X a j wi) (ok : BlkOk X.N X.env.scope scope own) (hv : ∀ i ∈ vs1, i ∈ own.map (·.2))
    (hg : ∀ (s : Shared) (H : Hp) (C : Addr) (cl : List (Str × Addr)) (fp : List Addr), PG (X.blk s H scope (compEnvC scope cl C X.env) fp) a g)
    (ht : ∀ (s : Shared) (H : Hp) (C : Addr) (cl : List (Str × Addr)) (fp : List Addr), PTs (X.blk s H scope (compEnvC scope cl C X.env) fp) c tt)
    (hi1 : ∀ (s : Shared) (H : Hp) (C : Addr) (cl : List (Str × Addr)) (fp : List Addr), PI (X.blk s H scope (compEnvC scope cl C X.env) fp) a1 j1 wi1)
    (hg1 : ∀ (s : Shared) (H : Hp) (C : Addr) (cl : List (Str × Addr)) (fp : List Addr), PG (X.blk s H scope (compEnvC scope cl C X.env) fp) a1 g1)
    (ht1 : ∀ (s : Shared) (H : Hp) (C : Addr) (cl : List (Str × Addr)) (fp : List Addr), PTs (X.blk s H scope (compEnvC scope cl C X.env) fp) c1 tt1)
    (he : ∀ (s : Shared) (H : Hp) (C : Addr) (cl : List (Str × Addr)) (fp : List Addr), PE (X.blk s H scope (compEnvC scope cl C X.env) fp) e te)
    (hs : ∀ x, foldedSetIterable j X.env x = pure x := by intro _; rfl) (hs1 : ∀ env x, foldedSetIterable j1 env x = pure x := by intro _ _; rfl) :
    PE X (scE e a j a1 j1 c c1 scope p) (tSc2 X.prog X.w X.K wi g tt wi1 g1 tt1 te (own.map (·.2)) vs1) := by
  refine ⟨fun pins s σ H Q I h => ?_⟩
  rw [PpSet.eval_SetComp]
  have free : ∀ y ∈ scope.names, y.2 = .free → ∃ q, X.env.cells.lookup y.1 = some q := fun y hy z => (ok.free y hy z).elim (fun k => I.ok.has _ (.inl k)) fun k => I.ok.has _ (.inr k)
  refine wpAny_comprehension_free (use := none) rfl hs (closure_ok free) ok.kind (fun y hy z => by rw [ok.uniq y hy, z]) (thn (hi.run pins s σ H _ I h) fun _ s1 hx => thn hx fun _ s2 ⟨it, fp, tn, J, H2, z, I2, T, st2, f2, q⟩ => ?_)
  subst z
  refine PpSet.newSet_ok (newEnv_comp ?_)
  generalize hD : s2.heap.objs.size = D
  obtain ⟨W, ⟨m0, w0⟩, turn⟩ := q D (I2.hok.fresh (Nat.le_of_eq hD))
  generalize hs3 : ({ s2 with heap := s2.heap.push { cls := .type "set", dict := none, data := .set #[] 0 (.fresh 0 0 (!X.w.params.followText "set-order")) } } : Shared) = s3
  have up : ∀ b o, s2.heap.get? b = some o → s3.heap.get? b = some o := fun b o z => by rw [← hs3]; exact Heap.get?_push_of_some _ z
  have I3 : Inv X pins σ (upd H2 D (SetTO X.prog X.w D [])) s3 := by
    have hset : (s2.heap.push { cls := .type "set", dict := none, data := .set #[] 0 (.fresh 0 0 (!X.w.params.followText "set-order")) }).get? s2.heap.objs.size = some { cls := .type "set", dict := none, data := .set #[] 0 (.fresh 0 0 (!X.w.params.followText "set-order")) } := Heap.get?_push_size _ rfl
    rw [← hs3]
    exact I2.laid (t' := s2.toks) (fun b o z => Heap.get?_push_of_some _ z) (Nat.le_of_eq hD) (setTO_new (setTR_fresh (P := X.prog) (by rw [← hD]; exact hset)).t0)
  have lt : ∀ b ∈ fp, b < s2.heap.objs.size := fun b hb => by
    obtain ⟨o, z, _⟩ := T.obj _ _ st2 b hb
    exact Heap.lt_size z
  generalize hH3 : upd H2 D (SetTO X.prog X.w D []) = H3 at I3 w0
  have f3 : ∀ b ∈ fp, FpOk X pins H3 b ∧ b < s3.heap.objs.size := fun b hb => by
    obtain ⟨o, z, _⟩ := T.obj _ _ st2 b hb
    refine ⟨⟨?_, (f2 b hb).2⟩, Heap.lt_size (up _ _ z)⟩
    rw [← hH3, upd_ne (by rw [← hD]; exact Nat.ne_of_lt (lt b hb))]
    exact (f2 b hb).1
  have I4 := block_start I3 ok hN f3
  have pg := fun C cl => hg s3 H3 C cl fp
  have pt := fun C cl => ht s3 H3 C cl fp
  have pi1 := fun C cl => hi1 s3 H3 C cl fp
  have pg1 := fun C cl => hg1 s3 H3 C cl fp
  have pt1 := fun C cl => ht1 s3 H3 C cl fp
  have pe := fun C cl => he s3 H3 C cl fp
  show codeAny _ _ (.compStart (scE e a j a1 j1 c c1 scope p) 0 (.ref it) (.ref D) (compEnvC scope (cellsFrom (s3.heap.objs.size + 1) scope.names (cloFrom X.env.cells scope.names [])) s3.heap.objs.size X.env)) (compPost (model X.prog X.w) X.A X.xe none _ (.ref D) s3.heap.objs.size) { s3 with heap := pushCells (s3.heap.push { cls := .type "dict", data := .dict #[] }) scope.names }
  have cut : ∀ ce, ce = compEnvC scope (cellsFrom (s3.heap.objs.size + 1) scope.names (cloFrom X.env.cells scope.names [])) s3.heap.objs.size X.env → ce.locals = s3.heap.objs.size ∧ PG (X.blk s3 H3 scope ce fp) a g ∧ PTs (X.blk s3 H3 scope ce fp) c tt ∧ PI (X.blk s3 H3 scope ce fp) a1 j1 wi1 ∧
      PG (X.blk s3 H3 scope ce fp) a1 g1 ∧ PTs (X.blk s3 H3 scope ce fp) c1 tt1 ∧ PE (X.blk s3 H3 scope ce fp) e te := fun ce z => by
    subst z
    exact ⟨rfl, hg s3 H3 _ _ fp, ht s3 H3 _ _ fp, hi1 s3 H3 _ _ fp, hg1 s3 H3 _ _ fp, ht1 s3 H3 _ _ fp, he s3 H3 _ _ fp⟩
  generalize compEnvC scope (cellsFrom (s3.heap.objs.size + 1) scope.names (cloFrom X.env.cells scope.names [])) s3.heap.objs.size X.env = ce at I4 cut ⊢
  obtain ⟨cL, pg, pt, pi1, pg1, pt1, pe⟩ := cut ce rfl
  generalize hs4 : ({ s3 with heap := pushCells (s3.heap.push { cls := .type "dict", data := .dict #[] }) scope.names } : Shared) = s4 at I4 ⊢
  have st4 : tn 0 s4.heap := T.keep _ _ _ st2 fun b _ o z => by
    rw [← hs4]
    exact pushCells_keeps _ _ _ _ (Heap.get?_push_of_some _ (up _ _ z))
  have fq : ∀ {H' : Hp}, (∀ b ∈ fp, H' b = none) → (∀ b ∈ fp, FpOk (X.blk s3 H3 scope ce fp) [] H3 b) → ∀ b ∈ fp, FpOk (X.blk s3 H3 scope ce fp) [] H' b := fun n k b hb => ⟨n b hb, (k b hb).2⟩
  have k0 : ∀ b ∈ fp, FpOk (X.blk s3 H3 scope ce fp) [] H3 b := fun b hb => ⟨(f3 b hb).1.1, (I4.ok.exf b hb).1, I4.ok.exfs b hb, .inl hb, fun x q z => (I4.ok.exf b hb).2 x q z, fun r hr => absurd (show r ∈ ([] : List (Addr × Obj)) ++ [] from hr) (by simp)⟩
  have loop : codeAny (model X.prog X.w) X.A (.compLoop (scE e a j a1 j1 c c1 scope p) 0 (.ref it) (.ref D) ce) (compPost (model X.prog X.w) X.A X.xe none (fun v s' => EP X pins σ Q v s') (.ref D) s3.heap.objs.size) s4 := by
    refine codeAny_loop rfl (fun n s' => ∃ i H', Inv (X.blk s3 H3 scope ce fp) [] (wipe σ (own.map (·.2))) H' s' ∧ tn i s'.heap ∧ (∀ b ∈ fp, H' b = none) ∧ W i n H') (fun n s5 ⟨i, H5, I5, st5, n5, w5⟩ => ?_) m0 ⟨0, H3, I4, st4, fun b hb => (f3 b hb).1.1, w0⟩
    show wpAny _ X.A ((compTurn (scE e a j a1 j1 c c1 scope p) 0 (.ref it) (.ref D) ce).onRaise (fun x => do noteFrame x ce; theTreesLotGoes x)) _ _ s5
    refine wpAny_noted ?_
    rw [scTurn0]
    refine wpAny_bind (wpAny_standAt (wpAny_bind ?_))
    rcases turn i n H5 w5 with ⟨stop, qq⟩ | ⟨go, Nx, hNx, step⟩
    · refine thnF (T.done (X.blk s3 H3 scope ce fp) rfl rfl rfl hc i [] s5 _ H5 (fun _ _ => False) I5 (fq n5 k0) st5 stop) fun r s6 ⟨hr, I6⟩ => ?_
      subst hr
      have I7 : Inv X pins σ H5 s6 := I3.call' (ch := fp) I6.os I6.base I6.hok I6.bare fun b hb => ⟨(f3 b hb).1.2.2.2.1, (f3 b hb).1.2.1, (f3 b hb).1.2.2.2.2.1, (f3 b hb).1.2.2.2.2.2⟩
      have nC : H5 s3.heap.objs.size = none := by
        rw [← cL]
        exact I6.free
      obtain ⟨m, hn, _⟩ := I6.loc
      have hn : s6.heap.Ns ce.locals m := hn
      rw [cL] at hn
      obtain ⟨f0, f1, f2', f3', f4, f5⟩ := I3.fpOk (Nat.le_refl s3.heap.objs.size) nC
      exact wpAny_pure ⟨m, hn, fun h' sb => ⟨.ref D, H5, I7.turned (t' := s6.toks) (fun b o hb z => (sb.2 b hb).trans z) f0 f1 f3' f4 f5, rfl, qq⟩⟩
    refine thnF (T.item (X.blk s3 H3 scope ce fp) rfl rfl rfl hc i [] s5 _ H5 (fun _ _ => False) I5 (fq n5 k0) st5 go) fun r s6 ⟨u, hr, h6⟩ => ?_
    subst hr
    refine wpAny_bind (thnF h6 fun _ s7 ⟨x, H7, I7, r7, y7, st7, n7⟩ => ?_)
    have I7' := I7.pinned (fq n7 k0) (T.obj _ _ st7)
    refine wpAny_bind (thnF (pg.run _ s7 _ H7 x u _ I7' r7 (step x H7 y7)) fun _ s8 ⟨σ8, H8, I8, hw8, q8⟩ => ?_)
    refine wpAny_bind (thnF (pt.run _ s8 σ8 H8 _ I8 q8) fun b s9 ⟨H9, I9, q9⟩ => ?_)
    have back : ∀ {σ9 : L2.St} {s' : Shared} {H' : Hp}, Inv (X.blk s3 H3 scope ce fp) ([] ++ pinsAt fp s7.heap) σ9 H' s' → (wipe σ (own.map (·.2))).length = σ9.length → (∀ (q : Nat) v, (wipe σ (own.map (·.2)))[q]? = some (some v) → σ9[q]? = some (some v)) → Nx H' →
        ∃ m, m < n ∧ ∃ i H', Inv (X.blk s3 H3 scope ce fp) [] (wipe σ (own.map (·.2))) H' s' ∧ tn i s'.heap ∧ (∀ b ∈ fp, H' b = none) ∧ W i m H' := fun {σ9 s' H'} I' hl hk nx => by
      obtain ⟨m, hm, w'⟩ := hNx H' nx
      have pin : ∀ b ∈ fp, ∀ o, s7.heap.get? b = some o → s'.heap.get? b = some o ∧ H' b = none := fun b hb o z => by
        have q := I'.pin (b, o) (List.mem_append_right _ (List.mem_append_right _ (mem_pinsAt hb z)))
        exact ⟨q.1, q.2.1⟩
      refine ⟨m, hm, i + 1, H', (I'.unpinned (pins := [])).weak hl hk, T.keep _ _ _ st7 fun b hb o z => (pin b hb o z).1, fun b hb => ?_, w'⟩
      obtain ⟨o, z, _⟩ := T.obj _ _ st7 b hb
      exact (pin b hb o z).2
    have l8 : (wipe σ (own.map (·.2))).length = σ8.length := by rw [← hw8, wipe_length]
    have k8 : ∀ (q : Nat) v, (wipe σ (own.map (·.2)))[q]? = some (some v) → σ8[q]? = some (some v) ∧ q ∉ own.map (·.2) := fun q v z => by
      rw [← hw8] at z
      exact wipe_some z
    cases b with
    | false => exact wpAny_pure ⟨rfl, back I9 l8 (fun q v z => (k8 q v z).1) q9⟩
    | true =>
      refine wpAny_bind (thnF (pi1.run _ s9 σ8 H9 _ I9 q9) fun xv s10 hx => ?_)
      refine wpAny_bind (wpAny_standAt (wpAny_bind (wpAny_of_eq (hs1 ce xv) (wpAny_bind (wpAny_holding (thnF hx fun iv s11 ⟨it1, fp1, tn1, J1, H11, z1, I11, T1, st11, f11, q11⟩ => ?_))))))
      subst z1
      refine wpAny_bind (wpAny_runOwn ?_)
      rw [Around.mark_none]
      refine codeAny_mono (sc2_start (e := e) (a := a) (j := j) (a1 := a1) (j1 := j1) (c := c) (c1 := c1) (p := p) (R := fun r s' => r = .ok .next ∧ ∃ m, m < n ∧ ∃ i H', Inv (X.blk s3 H3 scope ce fp) [] (wipe σ (own.map (·.2))) H' s' ∧ tn i s'.heap ∧ (∀ b ∈ fp, H' b = none) ∧ W i m H')
        (sc2_in hc hu pg1 pt1 pe T1 I11 st11 f11 q11 fun H' s' I' nx => ⟨rfl, back I' (l8.trans (wipe_length σ8 vs1).symm) (fun q v z => ?_) nx⟩) fun Q E hq => T1.self X.A 0 _ _ _ st11 hq) fun r s' ⟨hr, hq⟩ => ?_
      · obtain ⟨z1, z2⟩ := k8 q v z
        rw [wipe_out fun k => z2 (hv q k)]
        exact z1
      · subst hr
        first
          | exact wpAny_pure ⟨rfl, hq⟩
          | exact wpAny_bind (wpAny_pure (wpAny_pure ⟨rfl, hq⟩))
  exact PpSet.codeAny_compStart_set loop (T.self X.A 0 _ _ _ st4 loop)
end
end Pu

/-! own layer: such a set as data; its places in order -/
namespace Pu
open PySem PySem.Spec L2
open Evl (fresh_back sz_of sz_lt ex_l ex_t)
theorem len_sub {α : Type} [DecidableEq α] : ∀ {l B : List α}, l.Nodup → (∀ x ∈ l, x ∈ B) → l.length ≤ B.length
  | [], B, _, _ => Nat.zero_le _
  | x :: l, B, hn, hs => by
    obtain ⟨h1, h2⟩ := List.nodup_cons.mp hn
    have hx : x ∈ B := hs x List.mem_cons_self
    have q := len_sub (B := B.erase x) h2 fun y hy => (List.mem_erase_of_ne fun z => h1 (by rw [← z]; exact hy)).mpr (hs y (List.mem_cons_of_mem _ hy))
    rw [List.length_erase_of_mem hx] at q
    have := List.length_pos_of_mem hx
    rw [List.length_cons]
    omega
theorem take_ex {α : Type} {p : α → Prop} {ds : List α} {i : Nat} {d : α} (h : ds[i]? = some d) : (∃ x ∈ ds.take (i + 1), p x) ↔ (∃ x ∈ ds.take i, p x) ∨ p d := by
  rw [List.take_add_one, h]
  constructor
  · rintro ⟨x, hx, hp⟩
    rcases List.mem_append.mp hx with z | z
    · exact .inl ⟨x, z, hp⟩
    · have e : x = d := by simpa using z
      exact .inr (e ▸ hp)
  · rintro (⟨x, hx, hp⟩ | hp)
    · exact ⟨x, List.mem_append_left _ hx, hp⟩
    · exact ⟨d, List.mem_append_right _ (by simp), hp⟩
section
variable {K : PySem.W.Frag} {P : Program} {w : World} {es : Es} {ta tb te tl : TE} {d e : PyData} {ds : List PyData}
theorem SE.withinO {G H H' : Hp} {σ : L2.St} {p : Addr} {o : HO} (S : SE K G H σ es) (hn : H p = none) (e : Evl.Ex H H') (hp : H' p = some o) (nt : NT o) : SE K (hide p (Pu.grow G H H')) H' σ es := by
  have gp : G p = none := fresh_back S.ex hn
  refine S.re (ex_hide (ex_grow S.ex e) gp) (hide_ex.trans grow_ex) e (fun q ys h1 h2 => ?_) (fun a u h1 h2 => ?_)
  · by_cases z : q = p
    · rw [z, hide_self]
    · rw [hide_ne z, grow_priv h1 h2]
  · by_cases z : a = p
    · rw [z, hp] at h2
      cases h2
      exact nt
    · rw [hide_ne z] at h1
      exact prv_grow S.prv e a u h1 h2
theorem within_exO {G H H' H4 : Hp} {p : Addr} {o : HO} (e : Evl.Ex H H') (hp : H' p = some o) : Evl.Ex (grow (hide p (grow G H H')) H' H4) (hide p (grow G H H4)) := fun a u h => by
  by_cases z : a = p
  · rw [z, grow_priv hide_self hp] at h
    cases h
  · rw [hide_ne z]
    have h4 := grow_ex _ _ h
    cases hg : G a with
    | some u => rw [grow_pub hg]; exact h4
    | none =>
      cases hh : H a with
      | none => rw [grow_new hh]; exact h4
      | some u =>
        have q : hide p (grow G H H') a = none := by rw [hide_ne z, grow_priv hg hh]
        rw [grow_priv q (e _ _ hh)] at h
        cases h
def tupD (k : List Int) : PyData := .tuple (k.map .int)
theorem dp_tupD {H : Hp} {v : V} {k : List Int} (h : Dp K H v (tupD k)) : ∃ t, v = .ref t ∧ SqT K H t (k.map V.int) := by
  obtain ⟨p, xs, rfl, hs, hd⟩ := dp_tup h
  rw [dpa_ints hd] at hs
  exact ⟨p, rfl, hs⟩
/-- a new set of tuples of ints: its members -/
structure EvT (K : PySem.W.Frag) (P : Program) (w : World) (te : TE) (es : Es) (ks : List Int → Prop) : Prop where
  run : ∀ {G H : Hp} {σ : L2.St}, SE K G H σ es → ∀ {H1 : Hp}, Evl.Ex H H1 → ∀ {Q : VK}, (∀ D L H2, H1 D = none → Evl.Ex H1 H2 → H2 D = some (SetTO P w D L) → (∀ q ∈ L, SqT K (hide D (grow G H H2)) q.1 (q.2.map V.int)) → (∀ k, k ∈ L.map (·.2) ↔ ks k) → Q (.ref D) H2) → te σ H1 Q
/-- what is kept while the set grows -/
structure Grw (K : PySem.W.Frag) (P : Program) (w : World) (G H : Hp) (D : Addr) (H' : Hp) (ks : List Int → Prop) : Prop where
  at' : ∃ L, H' D = some (SetTO P w D L) ∧ (∀ q ∈ L, SqT K (hide D (grow G H H')) q.1 (q.2.map V.int)) ∧ (∀ k, k ∈ L.map (·.2) ↔ ks k) ∧ (L.map (·.2)).Nodup
theorem Grw.up {G H H' H2 : Hp} {D : Addr} {ks : List Int → Prop} (h : Grw K P w G H D H' ks) (e : Evl.Ex H' H2) : Grw K P w G H D H2 ks := by
  obtain ⟨L, a, b, c, d⟩ := h.at'
  exact ⟨L, e _ _ a, fun q hq => ex_t (hide_mono (grow_mono e)) (b q hq), c, d⟩
theorem Grw.as {G H H' : Hp} {D : Addr} {ks ks' : List Int → Prop} (h : Grw K P w G H D H' ks) (e : ∀ k, ks k ↔ ks' k) : Grw K P w G H D H' ks' := by
  obtain ⟨L, a, b, c, d⟩ := h.at'
  exact ⟨L, a, b, fun k => (c k).trans (e k), d⟩
theorem et_sc2 {α β : Type} {wi wi1 : TI} {j j1 : Nat} {vs vs1 : List Nat} {as : List α} {enc : α → PyData} {enc1 : β → PyData} (bs : α → List β) (f : α → β → List Int) (B : List (List Int)) (hB : B.length < 63) (h : EvI K wi es (as.map enc))
    (hj : ∀ σ x, wipe ((wipe σ vs).set j x) vs = wipe σ vs) (hj1 : ∀ σ x, wipe ((wipe σ vs1).set j1 x) vs1 = wipe σ vs1)
    (h1 : ∀ d ∈ as, EvI K wi1 ((wipeE es vs).set j (.dat (enc d))) ((bs d).map enc1)) (hb : ∀ d ∈ as, ∀ x ∈ bs d, f d x ∈ B)
    (he : ∀ d ∈ as, ∀ x ∈ bs d, EvE K te ((wipeE ((wipeE es vs).set j (.dat (enc d))) vs1).set j1 (.dat (enc1 x))) (tupD (f d x))) : EvT K P w (tSc2 P w K wi (gName j) tYes wi1 (gName j1) tYes te vs vs1) es (fun k => ∃ d ∈ as, ∃ x ∈ bs d, f d x = k) := .mk fun {G H σ} S {H1} e1 {Q} q =>
  h.1 S e1 fun J H2 e2 hJ D hD => by
    have e12 := e1.trans e2
    have hn : H D = none := fresh_back e12 hD
    have la : (as.map enc).length = as.length := List.length_map _
    refine ⟨fun i m H' => m = as.length - i ∧ i ≤ as.length ∧ Evl.Ex H2 H' ∧ Grw K P w G H D H' (fun k => ∃ d ∈ as.take i, ∃ x ∈ bs d, f d x = k), ⟨as.length, by simp, Nat.zero_le _, Evl.Ex.new hD, [], upd_same, fun q hq => (nomatch hq), fun k => by simp, List.nodup_nil⟩, ?_⟩
    rintro i m H' ⟨rfl, hi, eH, hgr⟩
    have e' : Evl.Ex H H' := e12.trans eH
    by_cases hlt : i < as.length
    · refine .inr ⟨hJ.go i H' (grow_ex.trans eH) (by rw [la]; exact hlt), fun H' => i + 1 ≤ as.length ∧ Evl.Ex H2 H' ∧ Grw K P w G H D H' (fun k => ∃ d ∈ as.take (i + 1), ∃ x ∈ bs d, f d x = k), fun H3 w => ⟨as.length - (i + 1), by omega, rfl, w⟩, fun x H3 y => ?_⟩
      obtain ⟨rfl, dd, hdi, hx⟩ := hJ.yld i x H' H3 (grow_ex.trans eH) (by rw [la]; exact hlt) y
      rw [List.getElem?_map] at hdi
      obtain ⟨d, hd0, rfl⟩ := Option.map_eq_some_iff.mp hdi
      replace hdi := hd0
      have hm : d ∈ as := List.mem_of_getElem? hdi
      obtain ⟨L, a3, _⟩ := hgr.at'
      have S2 := ((S.withinO hn e' a3 trivial).wipe vs).putDat j (hx.up (ex_hide (grow_mono eH) (grow_none hD)))
      refine ⟨hj σ (some x), ?_⟩
      rw [tYes_at, if_pos rfl]
      refine (h1 d hm).1 S2 (Evl.Ex.refl _) fun J1 H4 e4 hJ1 => ?_
      have lb : ((bs d).map enc1).length = (bs d).length := List.length_map _
      refine ⟨fun k n H5 => n = (bs d).length - k ∧ k ≤ (bs d).length ∧ Evl.Ex H2 H5 ∧ Evl.Ex (grow (hide D (grow G H H3)) H3 H4) (hide D (grow G H H5)) ∧ Grw K P w G H D H5 (fun z => (∃ d ∈ as.take i, ∃ x ∈ bs d, f d x = z) ∨ ∃ x ∈ (bs d).take k, f d x = z),
        ⟨(bs d).length, by simp, Nat.zero_le _, eH.trans e4, within_exO e' a3, (hgr.up e4).as fun k => by simp⟩, ?_⟩
      rintro k n H5 ⟨rfl, hk, eH5, ew, hg5⟩
      have e5' : Evl.Ex H H5 := e12.trans eH5
      have ewd : Evl.Ex (grow (hide D (grow G H H3)) H3 H4) H5 := ew.trans (hide_ex.trans grow_ex)
      by_cases hlt1 : k < (bs d).length
      · refine .inr ⟨hJ1.go k H5 ewd (by rw [lb]; exact hlt1), fun H5 => k + 1 ≤ (bs d).length ∧ Evl.Ex H2 H5 ∧ Evl.Ex (grow (hide D (grow G H H3)) H3 H4) (hide D (grow G H H5)) ∧ Grw K P w G H D H5 (fun z => (∃ d ∈ as.take i, ∃ x ∈ bs d, f d x = z) ∨ ∃ x ∈ (bs d).take (k + 1), f d x = z), fun H6 w => ⟨(bs d).length - (k + 1), by omega, rfl, w⟩, fun x1 H6 y1 => ?_⟩
        obtain ⟨rfl, dd1, hdk, hx1⟩ := hJ1.yld k x1 H5 H6 ewd (by rw [lb]; exact hlt1) y1
        rw [List.getElem?_map] at hdk
        obtain ⟨d1, hd0k, rfl⟩ := Option.map_eq_some_iff.mp hdk
        replace hdk := hd0k
        have hm1 : d1 ∈ bs d := List.mem_of_getElem? hdk
        obtain ⟨L5, a5, b5, c5, nd5⟩ := hg5.at'
        have S3 := (((((S.withinO hn e5' a5 trivial).wipe vs).putDat j (hx.up (ex_hide (grow_mono eH5) (grow_none hD)))).wipe vs1).putDat j1 (hx1.up ew))
        refine ⟨hj1 _ (some x1), ?_⟩
        rw [tYes_at, if_pos rfl]
        refine (he d hm d1 hm1).1 S3 (Evl.Ex.refl _) fun z H7 e7 hz => ?_
        have hz2 := hz.up (within_exO e5' a5)
        obtain ⟨t, rfl, ht⟩ := dp_tupD hz2
        have b7 : ∀ q ∈ L5, SqT K (hide D (grow G H H7)) q.1 (q.2.map V.int) := fun q hq => ex_t (hide_mono (grow_mono e7)) (b5 q hq)
        have few : L5.length ≤ B.length := by
          rw [← List.length_map (f := (·.2)) (as := L5)]
          refine len_sub nd5 fun k hk => ?_
          rcases (c5 k).mp hk with ⟨d', hd', x', hx', rfl⟩ | ⟨x', hx', rfl⟩
          · exact hb d' (List.mem_of_mem_take hd') x' hx'
          · exact hb d hm x' (List.mem_of_mem_take hx')
        refine ⟨t, f d d1, L5, rfl, ex_t (hide_ex.trans grow_ex) ht, e7 _ _ a5, fun q hq => ex_t (hide_ex.trans grow_ex) (b7 q hq), by omega, fun L' c1 c2 => ⟨hlt1, Evl.Ex.mut (eH5.trans e7) hD, ?_, ?_⟩⟩
        · rw [hide_upd]
          exact ew.trans (hide_mono (grow_mono e7))
        · have key : (∀ q ∈ L', SqT K (hide D (grow G H H7)) q.1 (q.2.map V.int)) ∧ (∀ k', k' ∈ L'.map (·.2) ↔ k' ∈ L5.map (·.2) ∨ f d d1 = k') ∧ (L'.map (·.2)).Nodup := by
            by_cases c : f d d1 ∈ L5.map (·.2)
            · rw [c1 c]
              exact ⟨b7, fun k' => ⟨.inl, fun z => z.elim id fun z => z ▸ c⟩, nd5⟩
            · have pm := c2 c
              have pm2 := pm.map (·.2)
              refine ⟨fun q hq => ?_, fun k' => ?_, pm2.nodup_iff.mpr (List.nodup_cons.mpr ⟨c, nd5⟩)⟩
              · rcases List.mem_cons.mp (pm.mem_iff.mp hq) with rfl | z
                · exact ht
                · exact b7 q z
              · rw [pm2.mem_iff, List.map_cons, List.mem_cons]
                exact ⟨fun z => z.elim (fun z => .inr z.symm) .inl, fun z => z.elim .inr fun z => .inl z.symm⟩
          refine ⟨L', upd_same, ?_, fun k' => ?_, key.2.2⟩
          · rw [hide_upd]
            exact key.1
          · rw [key.2.1, c5, take_ex hdk, or_assoc]
      · have ek : k = (bs d).length := by omega
        subst ek
        refine .inl ⟨by rw [← lb]; exact hJ1.stop H5 ewd, hlt, eH5, hg5.as fun z => ?_⟩
        rw [List.take_length, take_ex hdi]
    · have ei : i = as.length := by omega
      subst ei
      obtain ⟨L, a, b, c, nd⟩ := hgr.at'
      rw [List.take_length] at c
      exact .inl ⟨by rw [← la]; exact hJ.stop H' (grow_ex.trans eH), q D L H' (fresh_back e2 hD) (e2.trans eH) a b c⟩
/-- a list with two sources, what they give told by things of one's own -/
theorem ef_lc2A {α β : Type} {wi wi1 : TI} {j j1 : Nat} {vs vs1 : List Nat} {as : List α} {enc : α → PyData} {enc1 : β → PyData} (bs : α → List β) (g : α → β → PyData) (h : EvI K wi es (as.map enc)) (hz : (as.flatMap fun d => (bs d).map (g d)).length ≤ 50000)
    (hj : ∀ σ x, wipe ((wipe σ vs).set j x) vs = wipe σ vs) (hj1 : ∀ σ x, wipe ((wipe σ vs1).set j1 x) vs1 = wipe σ vs1)
    (h1 : ∀ d ∈ as, EvI K wi1 ((wipeE es vs).set j (.dat (enc d))) ((bs d).map enc1))
    (he : ∀ d ∈ as, ∀ x ∈ bs d, EvE K te ((wipeE ((wipeE es vs).set j (.dat (enc d))) vs1).set j1 (.dat (enc1 x))) (g d x)) : EvF K (tLc2 wi (gName j) tYes wi1 (gName j1) tYes te vs vs1) es (as.flatMap fun d => (bs d).map (g d)) := .mk fun {G H σ} S {H1} e1 {Q} q =>
  h.1 S e1 fun J H2 e2 hJ Dl hD => by
    have e12 := e1.trans e2
    have hn : H Dl = none := fresh_back e12 hD
    have la : (as.map enc).length = as.length := List.length_map _
    refine ⟨fun i m H' => m = as.length - i ∧ i ≤ as.length ∧ Evl.Ex H2 H' ∧ ∃ acc, H' Dl = some (.lst acc) ∧ DpAll K (hide Dl (grow G H H')) acc ((as.take i).flatMap fun d => (bs d).map (g d)), ⟨as.length, by simp, Nat.zero_le _, Evl.Ex.new hD, [], upd_same, .nil⟩, ?_⟩
    rintro i m H' ⟨rfl, hi, eH, acc, ha, hda⟩
    have e' : Evl.Ex H H' := e12.trans eH
    by_cases hlt : i < as.length
    · refine .inr ⟨hJ.go i H' (grow_ex.trans eH) (by rw [la]; exact hlt), fun H' => i + 1 ≤ as.length ∧ Evl.Ex H2 H' ∧ ∃ acc, H' Dl = some (.lst acc) ∧ DpAll K (hide Dl (grow G H H')) acc ((as.take (i + 1)).flatMap fun d => (bs d).map (g d)), fun H3 w => ⟨as.length - (i + 1), by omega, rfl, w⟩, fun x H3 y => ?_⟩
      obtain ⟨rfl, dd, hdi, hx⟩ := hJ.yld i x H' H3 (grow_ex.trans eH) (by rw [la]; exact hlt) y
      rw [List.getElem?_map] at hdi
      obtain ⟨d, hd0, rfl⟩ := Option.map_eq_some_iff.mp hdi
      replace hdi := hd0
      have hm : d ∈ as := List.mem_of_getElem? hdi
      have S2 := ((S.within hn e' ha).wipe vs).putDat j (hx.up (ex_hide (grow_mono eH) (grow_none hD)))
      have tk : (as.take (i + 1)).flatMap (fun d => (bs d).map (g d)) = (as.take i).flatMap (fun d => (bs d).map (g d)) ++ (bs d).map (g d) := by
        rw [List.take_add_one, hdi, List.flatMap_append]
        show _ ++ List.flatMap _ [d] = _
        rw [List.flatMap_singleton]
      have tot : ((as.take (i + 1)).flatMap (fun d => (bs d).map (g d))).length ≤ 50000 := by
        refine Nat.le_trans ?_ hz
        conv => rhs; rw [← List.take_append_drop (i + 1) as, List.flatMap_append, List.length_append]
        exact Nat.le_add_right _ _
      rw [tk, List.length_append, List.length_map] at tot
      refine ⟨hj σ (some x), ?_⟩
      rw [tYes_at, if_pos rfl]
      refine (h1 d hm).1 S2 (Evl.Ex.refl _) fun J1 H4 e4 hJ1 => ?_
      have lb : ((bs d).map enc1).length = (bs d).length := List.length_map _
      refine ⟨fun k n H5 => n = (bs d).length - k ∧ k ≤ (bs d).length ∧ Evl.Ex H2 H5 ∧ Evl.Ex (grow (hide Dl (grow G H H3)) H3 H4) (hide Dl (grow G H H5)) ∧ ∃ acc2, H5 Dl = some (.lst acc2) ∧ DpAll K (hide Dl (grow G H H5)) acc2 ((as.take i).flatMap (fun d => (bs d).map (g d)) ++ ((bs d).take k).map (g d)),
        ⟨(bs d).length, by simp, Nat.zero_le _, eH.trans e4, within_ex e' ha, acc, e4 _ _ ha, ?_⟩, ?_⟩
      · show DpAll K _ acc (_ ++ [])
        rw [List.append_nil]
        exact hda.up (hide_mono (grow_mono e4))
      rintro k n H5 ⟨rfl, hk, eH5, ew, acc2, a5, hd5⟩
      have e5' : Evl.Ex H H5 := e12.trans eH5
      have ewd : Evl.Ex (grow (hide Dl (grow G H H3)) H3 H4) H5 := ew.trans (hide_ex.trans grow_ex)
      by_cases hlt1 : k < (bs d).length
      · refine .inr ⟨hJ1.go k H5 ewd (by rw [lb]; exact hlt1), fun H5 => k + 1 ≤ (bs d).length ∧ Evl.Ex H2 H5 ∧ Evl.Ex (grow (hide Dl (grow G H H3)) H3 H4) (hide Dl (grow G H H5)) ∧ ∃ acc2, H5 Dl = some (.lst acc2) ∧ DpAll K (hide Dl (grow G H H5)) acc2 ((as.take i).flatMap (fun d => (bs d).map (g d)) ++ ((bs d).take (k + 1)).map (g d)), fun H6 w => ⟨(bs d).length - (k + 1), by omega, rfl, w⟩, fun x1 H6 y1 => ?_⟩
        obtain ⟨rfl, dd1, hdk, hx1⟩ := hJ1.yld k x1 H5 H6 ewd (by rw [lb]; exact hlt1) y1
        rw [List.getElem?_map] at hdk
        obtain ⟨d1, hd0k, rfl⟩ := Option.map_eq_some_iff.mp hdk
        replace hdk := hd0k
        have hm1 : d1 ∈ bs d := List.mem_of_getElem? hdk
        have hx2 : Dp K (hide Dl (grow G H H6)) x (enc d) := hx.up (ex_hide (grow_mono eH5) (grow_none hD))
        have S3 := (((((S.within hn e5' a5).wipe vs).putDat j hx2).wipe vs1).putDat j1 (hx1.up ew))
        refine ⟨hj1 _ (some x1), ?_⟩
        rw [tYes_at, if_pos rfl]
        refine (he d hm d1 hm1).1 S3 (Evl.Ex.refl _) fun z H7 e7 hz' => ?_
        have lacc : acc2.length < 100000 := by
          rw [dpa_len hd5, List.length_append, List.length_map, List.length_take]
          have : min k (bs d).length ≤ (bs d).length := Nat.min_le_right _ _
          omega
        refine ⟨acc2, e7 _ _ a5, sz_lt lacc, hlt1, Evl.Ex.mut (eH5.trans e7) hD, ?_, acc2 ++ [z], upd_same, ?_⟩
        · rw [hide_upd]
          exact ew.trans (hide_mono (grow_mono e7))
        · rw [hide_upd, List.take_add_one, hdk, List.map_append, ← List.append_assoc]
          exact dpa_snoc (hd5.up (hide_mono (grow_mono e7))) (hz'.up (within_ex e5' a5))
      · have e : k = (bs d).length := by omega
        subst e
        refine .inl ⟨by rw [← lb]; exact hJ1.stop H5 ewd, hlt, eH5, acc2, a5, ?_⟩
        rw [tk]
        rw [List.take_length] at hd5
        exact hd5
    · have e : i = as.length := by omega
      subst e
      refine .inl ⟨by rw [← la]; exact hJ.stop H' (grow_ex.trans eH), q Dl acc H' (fresh_back e2 hD) (e2.trans eH) ha ?_⟩
      rw [List.take_length] at hda
      exact hda
theorem eq_of_rk : ∀ {M R : List (List Int)}, M.Pairwise (fun a b => rk2 a < rk2 b) → R.Pairwise (fun a b => rk2 a < rk2 b) → (∀ k, k ∈ M ↔ k ∈ R) → M = R
  | [], [], _, _, _ => rfl
  | [], r :: R, _, _, h => nomatch (h r).mpr List.mem_cons_self
  | m :: M, [], _, _, h => nomatch (h m).mp List.mem_cons_self
  | m :: M, r :: R, hM, hR, h => by
    obtain ⟨m1, m2⟩ := List.pairwise_cons.mp hM
    obtain ⟨r1, r2⟩ := List.pairwise_cons.mp hR
    have e : m = r := by
      rcases List.mem_cons.mp ((h m).mp List.mem_cons_self) with z | z
      · exact z
      rcases List.mem_cons.mp ((h r).mpr List.mem_cons_self) with z' | z'
      · exact z'.symm
      have := r1 m z
      have := m1 r z'
      omega
    subst e
    rw [eq_of_rk m2 r2 fun k => ?_]
    constructor
    · intro hk
      rcases List.mem_cons.mp ((h k).mp (List.mem_cons_of_mem _ hk)) with z | z
      · have := m1 k hk
        rw [z] at this
        omega
      · exact z
    · intro hk
      rcases List.mem_cons.mp ((h k).mpr (List.mem_cons_of_mem _ hk)) with z | z
      · have := r1 k hk
        rw [z] at this
        omega
      · exact z
theorem rk2_inj {a b : List Int} (ha : Pr2 a) (hb : Pr2 b) (h : rk2 a = rk2 b) : a = b := by
  obtain ⟨x, y, rfl, h1, h2⟩ := ha
  obtain ⟨u, v, rfl, h3, h4⟩ := hb
  have h' : x * 1000 + y = u * 1000 + v := h
  have e1 : x = u := by omega
  have e2 : y = v := by omega
  rw [e1, e2]
theorem ef_sortP {ks : List Int → Prop} (R : List (List Int)) (h : EvT K P w te es ks) (hp : ∀ k, ks k → Pr2 k) (hR : R.Pairwise (fun a b => rk2 a < rk2 b)) (hk : ∀ k, k ∈ R ↔ ks k) : EvF K (tCB (rSortP K P w) (tCons te tNil)) es (R.map tupD) := .mk fun {G H σ} S {H1} e1 {Q} q =>
  h.1 S e1 fun D L H2 hn e2 hD hL hm => by
    have pr : ∀ z ∈ L, Pr2 z.2 := fun z hz => hp _ ((hm _).mp (List.mem_map.mpr ⟨z, hz, rfl⟩))
    refine ⟨D, L, rfl, hD, fun z hz => ⟨ex_t (hide_ex.trans grow_ex) (hL z hz), pr z hz⟩, fun M p pm nd hf pw hpn => ?_⟩
    have e3 : Evl.Ex H1 (upd H2 p (.lst (M.map fun q => V.ref q.1))) := e2.trans (Evl.Ex.new hpn)
    refine q p _ _ (fresh_back e2 hpn) e3 upd_same ?_
    have eM : M.map (·.2) = R := by
      refine eq_of_rk (List.pairwise_map.mpr ?_) hR fun k => by rw [(pm.map (·.2)).mem_iff, hm, hk]
      have both : M.Pairwise fun q r => rk2 q.2 ≤ rk2 r.2 ∧ q.2 ≠ r.2 := pw.and (List.pairwise_map.mp nd)
      refine both.imp_of_mem fun {a b} ha hb hab => ?_
      have h1 : rk2 a.2 ≠ rk2 b.2 := fun z => hab.2 (rk2_inj (pr a (pm.mem_iff.mp ha)) (pr b (pm.mem_iff.mp hb)) z)
      have h2 := hab.1
      omega
    rw [← eM, List.map_map]
    have base : ∀ z ∈ M, SqT K (hide p (grow G H (upd H2 p (.lst (M.map fun q => V.ref q.1))))) z.1 (z.2.map V.int) := fun z hz => by
      rw [hide_upd]
      refine ex_t (fun a o ha => ?_) (hL z (pm.mem_iff.mp hz))
      have ne : a ≠ p := fun z => by
        have := (hide_ex.trans grow_ex) _ _ ha
        rw [z, hpn] at this
        cases this
      rw [hide_ne ne]
      exact hide_ex _ _ ha
    clear pm nd hf pw eM e3
    generalize hide p (grow G H (upd H2 p (.lst (M.map fun q => V.ref q.1)))) = HH at base
    induction M with
    | nil => exact .nil
    | cons z M ih => exact .cons (.tup (base z List.mem_cons_self) dpa_mkInts) (ih fun y hy => base y (List.mem_cons_of_mem _ hy))
end
theorem pi_listK {X : Cx} {K : PySem.W.Frag} {tg l : Expr} {tl : TE} (h : X.K = K) (hl : PE X l tl) : PI X tg l (iList K tl) := h ▸ pi_list hl
theorem pi_tupK {X : Cx} {K : PySem.W.Frag} {tg l : Expr} {tl : TE} (h : X.K = K) (hl : PE X l tl) : PI X tg l (iTup K tl) := h ▸ pi_tup hl
end Pu

namespace K02
open PySem PySem.Spec L2 Pu
open Evl (Ex rLenS rMax2 rListS)
open PyProof.Rows (envOfC)
def topS (i : Nat) : Stmt := PySem.Challenge.pw_rulesheet_k02_depth_and_needs.main.body.getD i (.Pass ⟨0, 0, 0, 0⟩)
abbrev s_area : Stmt := topS 3
theorem sc_area : FnScope ["one", "two", "rows", "columns", "row", "column"] ["one", "two"] (defScope s_area) := ⟨rfl, rfl, rfl, by decide +kernel, rfl, by decide +kernel, by decide +kernel⟩
abbrev s_inner_rules : Stmt := topS 4
theorem sc_inner_rules : FnScope ["rule", "at"] ["rule"] (defScope s_inner_rules) := ⟨rfl, rfl, rfl, by decide +kernel, rfl, by decide +kernel, by decide +kernel⟩
abbrev s_references : Stmt := topS 5
theorem sc_references : FnScope ["rule", "at"] ["rule"] (defScope s_references) := ⟨rfl, rfl, rfl, by decide +kernel, rfl, by decide +kernel, by decide +kernel⟩
abbrev s_outer_first : Stmt := topS 6
theorem sc_outer_first : FnScope ["rule", "found", "waiting", "one"] ["rule"] (defScope s_outer_first) := ⟨rfl, rfl, rfl, by decide +kernel, rfl, by decide +kernel, by decide +kernel⟩
abbrev s_deep : Stmt := topS 7
theorem sc_deep : FnScope ["rule", "depth", "level", "one", "inner"] ["rule"] (defScope s_deep) := ⟨rfl, rfl, rfl, by decide +kernel, rfl, by decide +kernel, by decide +kernel⟩
abbrev s_named : Stmt := topS 8
theorem sc_named : FnScope ["rule", "told"] ["rule"] (defScope s_named) := ⟨rfl, rfl, rfl, by decide +kernel, rfl, by decide +kernel, by decide +kernel⟩
abbrev s_needed : Stmt := topS 9
theorem sc_needed : FnScope ["rule", "one", "place"] ["rule"] (defScope s_needed) := ⟨rfl, rfl, rfl, by decide +kernel, rfl, by decide +kernel, by decide +kernel⟩
abbrev s__law_whole : Stmt := topS 11
theorem sc__law_whole : FnScope ["_law_found"] ["_law_found"] (defScope s__law_whole) := ⟨rfl, rfl, rfl, by decide +kernel, rfl, by decide +kernel, by decide +kernel⟩
abbrev s__law_cell_at : Stmt := topS 12
theorem sc__law_cell_at : FnScope ["_law_script", "_law_k"] ["_law_script", "_law_k"] (defScope s__law_cell_at) := ⟨rfl, rfl, rfl, by decide +kernel, rfl, by decide +kernel, by decide +kernel⟩
abbrev s__law_ref_by : Stmt := topS 13
theorem sc__law_ref_by : FnScope ["_law_cell", "_law_high", "_law_wide"] ["_law_cell", "_law_high", "_law_wide"] (defScope s__law_ref_by) := ⟨rfl, rfl, rfl, by decide +kernel, rfl, by decide +kernel, by decide +kernel⟩
abbrev s__law_leaf_by : Stmt := topS 14
theorem sc__law_leaf_by : FnScope ["_law_cell", "_law_high", "_law_wide", "_law_more", "_law_one"] ["_law_cell", "_law_high", "_law_wide"] (defScope s__law_leaf_by) := ⟨rfl, rfl, rfl, by decide +kernel, rfl, by decide +kernel, by decide +kernel⟩
abbrev s__law_inner : Stmt := topS 15
theorem sc__law_inner : FnScope ["_law_rule"] ["_law_rule"] (defScope s__law_inner) := ⟨rfl, rfl, rfl, by decide +kernel, rfl, by decide +kernel, by decide +kernel⟩
abbrev s__law_made_by : Stmt := topS 16
theorem sc__law_made_by : FnScope ["_law_stack", "_law_cell", "_law_high", "_law_wide", "_law_more", "_law_other"] ["_law_stack", "_law_cell", "_law_high", "_law_wide"] (defScope s__law_made_by) := ⟨rfl, rfl, rfl, by decide +kernel, rfl, by decide +kernel, by decide +kernel⟩
abbrev s__law_tree_by : Stmt := topS 17
theorem sc__law_tree_by : FnScope ["_law_cells", "_law_high", "_law_wide", "_law_stack", "_law_cell", "_law_made"] ["_law_cells", "_law_high", "_law_wide"] (defScope s__law_tree_by) := ⟨rfl, rfl, rfl, by decide +kernel, rfl, by decide +kernel, by decide +kernel⟩
abbrev s__law_deep : Stmt := topS 18
theorem sc__law_deep : FnScope ["_law_rule", "_law_most", "_law_part"] ["_law_rule"] (defScope s__law_deep) := ⟨rfl, rfl, rfl, by decide +kernel, rfl, by decide +kernel, by decide +kernel⟩
abbrev s__law_between : Stmt := topS 19
theorem sc__law_between : FnScope ["_law_one", "_law_two", "_law_place", "_law_rows"] ["_law_one", "_law_two", "_law_place"] (defScope s__law_between) := ⟨rfl, rfl, rfl, by decide +kernel, rfl, by decide +kernel, by decide +kernel⟩
abbrev s__law_names : Stmt := topS 20
theorem sc__law_names : FnScope ["_law_rule", "_law_place", "_law_part"] ["_law_rule", "_law_place"] (defScope s__law_names) := ⟨rfl, rfl, rfl, by decide +kernel, rfl, by decide +kernel, by decide +kernel⟩
abbrev s__law_moved : Stmt := topS 21
theorem sc__law_moved : FnScope ["_law_part", "_law_down", "_law_right_here", "_law_one"] ["_law_part", "_law_down", "_law_right_here"] (defScope s__law_moved) := ⟨rfl, rfl, rfl, by decide +kernel, rfl, by decide +kernel, by decide +kernel⟩
abbrev s__law_right : Stmt := topS 22
theorem sc__law_right : FnScope ["_law_rule", "_law_high", "_law_wide", "_law_away", "_law_places", "_law_due", "_law_found", "_law_place", "_law_k"] ["_law_rule", "_law_high", "_law_wide", "_law_away"] (defScope s__law_right) := ⟨rfl, rfl, rfl, by decide +kernel, rfl, by decide +kernel, by decide +kernel⟩
abbrev s_law : Stmt := topS 23
theorem sc_law : FnScope ["_law_script", "_law_high", "_law_wide", "_law_away", "_law_rule", "_law_part"] ["_law_script"] (defScope s_law) := ⟨rfl, rfl, rfl, by decide +kernel, rfl, by decide +kernel, by decide +kernel⟩
/-- what the top has left -/
structure Top (K : PySem.W.Frag) (mg : Str → Option Value) (w : World) where
  a_area : Addr
  d_area : FuncData
  F_area : Fun K "area" "area" s_area a_area d_area
  b_area : Binds K d_area ["one", "two"] []
  m_area : mg "area" = some (.ref a_area)
  a_inner_rules : Addr
  d_inner_rules : FuncData
  F_inner_rules : Fun K "inner_rules" "inner_rules" s_inner_rules a_inner_rules d_inner_rules
  b_inner_rules : Binds K d_inner_rules ["rule"] []
  m_inner_rules : mg "inner_rules" = some (.ref a_inner_rules)
  a_references : Addr
  d_references : FuncData
  F_references : Fun K "references" "references" s_references a_references d_references
  b_references : Binds K d_references ["rule"] []
  m_references : mg "references" = some (.ref a_references)
  a_outer_first : Addr
  d_outer_first : FuncData
  F_outer_first : Fun K "outer_first" "outer_first" s_outer_first a_outer_first d_outer_first
  b_outer_first : Binds K d_outer_first ["rule"] []
  m_outer_first : mg "outer_first" = some (.ref a_outer_first)
  a_deep : Addr
  d_deep : FuncData
  F_deep : Fun K "deep" "deep" s_deep a_deep d_deep
  b_deep : Binds K d_deep ["rule"] []
  m_deep : mg "deep" = some (.ref a_deep)
  a_named : Addr
  d_named : FuncData
  F_named : Fun K "named" "named" s_named a_named d_named
  b_named : Binds K d_named ["rule"] []
  m_named : mg "named" = some (.ref a_named)
  a_needed : Addr
  d_needed : FuncData
  F_needed : Fun K "needed" "needed" s_needed a_needed d_needed
  b_needed : Binds K d_needed ["rule"] []
  m_needed : mg "needed" = some (.ref a_needed)
  a__law_whole : Addr
  d__law_whole : FuncData
  F__law_whole : Fun K "_law_whole" "_law_whole" s__law_whole a__law_whole d__law_whole
  b__law_whole : Binds K d__law_whole ["_law_found"] []
  m__law_whole : mg "_law_whole" = some (.ref a__law_whole)
  a__law_cell_at : Addr
  d__law_cell_at : FuncData
  F__law_cell_at : Fun K "_law_cell_at" "_law_cell_at" s__law_cell_at a__law_cell_at d__law_cell_at
  b__law_cell_at : Binds K d__law_cell_at ["_law_script", "_law_k"] []
  m__law_cell_at : mg "_law_cell_at" = some (.ref a__law_cell_at)
  a__law_ref_by : Addr
  d__law_ref_by : FuncData
  F__law_ref_by : Fun K "_law_ref_by" "_law_ref_by" s__law_ref_by a__law_ref_by d__law_ref_by
  b__law_ref_by : Binds K d__law_ref_by ["_law_cell", "_law_high", "_law_wide"] []
  m__law_ref_by : mg "_law_ref_by" = some (.ref a__law_ref_by)
  a__law_leaf_by : Addr
  d__law_leaf_by : FuncData
  F__law_leaf_by : Fun K "_law_leaf_by" "_law_leaf_by" s__law_leaf_by a__law_leaf_by d__law_leaf_by
  b__law_leaf_by : Binds K d__law_leaf_by ["_law_cell", "_law_high", "_law_wide"] []
  m__law_leaf_by : mg "_law_leaf_by" = some (.ref a__law_leaf_by)
  a__law_inner : Addr
  d__law_inner : FuncData
  F__law_inner : Fun K "_law_inner" "_law_inner" s__law_inner a__law_inner d__law_inner
  b__law_inner : Binds K d__law_inner ["_law_rule"] []
  m__law_inner : mg "_law_inner" = some (.ref a__law_inner)
  a__law_made_by : Addr
  d__law_made_by : FuncData
  F__law_made_by : Fun K "_law_made_by" "_law_made_by" s__law_made_by a__law_made_by d__law_made_by
  b__law_made_by : Binds K d__law_made_by ["_law_stack", "_law_cell", "_law_high", "_law_wide"] []
  m__law_made_by : mg "_law_made_by" = some (.ref a__law_made_by)
  a__law_tree_by : Addr
  d__law_tree_by : FuncData
  F__law_tree_by : Fun K "_law_tree_by" "_law_tree_by" s__law_tree_by a__law_tree_by d__law_tree_by
  b__law_tree_by : Binds K d__law_tree_by ["_law_cells", "_law_high", "_law_wide"] []
  m__law_tree_by : mg "_law_tree_by" = some (.ref a__law_tree_by)
  a__law_deep : Addr
  d__law_deep : FuncData
  F__law_deep : Fun K "_law_deep" "_law_deep" s__law_deep a__law_deep d__law_deep
  b__law_deep : Binds K d__law_deep ["_law_rule"] []
  m__law_deep : mg "_law_deep" = some (.ref a__law_deep)
  a__law_between : Addr
  d__law_between : FuncData
  F__law_between : Fun K "_law_between" "_law_between" s__law_between a__law_between d__law_between
  b__law_between : Binds K d__law_between ["_law_one", "_law_two", "_law_place"] []
  m__law_between : mg "_law_between" = some (.ref a__law_between)
  a__law_names : Addr
  d__law_names : FuncData
  F__law_names : Fun K "_law_names" "_law_names" s__law_names a__law_names d__law_names
  b__law_names : Binds K d__law_names ["_law_rule", "_law_place"] []
  m__law_names : mg "_law_names" = some (.ref a__law_names)
  a__law_moved : Addr
  d__law_moved : FuncData
  F__law_moved : Fun K "_law_moved" "_law_moved" s__law_moved a__law_moved d__law_moved
  b__law_moved : Binds K d__law_moved ["_law_part", "_law_down", "_law_right_here"] []
  m__law_moved : mg "_law_moved" = some (.ref a__law_moved)
  a__law_right : Addr
  d__law_right : FuncData
  F__law_right : Fun K "_law_right" "_law_right" s__law_right a__law_right d__law_right
  b__law_right : Binds K d__law_right ["_law_rule", "_law_high", "_law_wide", "_law_away"] []
  m__law_right : mg "_law_right" = some (.ref a__law_right)
  a_law : Addr
  d_law : FuncData
  F_law : Fun K "law" "law" s_law a_law d_law
  b_law : Binds K d_law ["_law_script"] []
  m_law : mg "law" = some (.ref a_law)
  z_bool : mg "bool" = none
  z_int : mg "int" = none
  z_isinstance : mg "isinstance" = none
  z_len : mg "len" = none
  z_list : mg "list" = none
  z_max : mg "max" = none
  z_min : mg "min" = none
  z_range : mg "range" = none
  z_sorted : mg "sorted" = none
  z_str : mg "str" = none
  z_tuple : mg "tuple" = none
  r_RULES_AT : Addr
  m_RULES_AT : mg "RULES_AT" = some (.ref r_RULES_AT)
  D_RULES_AT_num : DTab K w r_RULES_AT "num" []
  D_RULES_AT_cell : DTab K w r_RULES_AT "cell" []
  D_RULES_AT_add : DTab K w r_RULES_AT "add" [1, 2]
  D_RULES_AT_sub : DTab K w r_RULES_AT "sub" [1, 2]
  D_RULES_AT_mul : DTab K w r_RULES_AT "mul" [1, 2]
  D_RULES_AT_pick : DTab K w r_RULES_AT "pick" [1, 2, 3]
  D_RULES_AT_sum : DTab K w r_RULES_AT "sum" []
  D_RULES_AT_most : DTab K w r_RULES_AT "most" []
  D_RULES_AT_look : DTab K w r_RULES_AT "look" [1, 4]
  r_REFERENCES_AT : Addr
  m_REFERENCES_AT : mg "REFERENCES_AT" = some (.ref r_REFERENCES_AT)
  D_REFERENCES_AT_num : DTab K w r_REFERENCES_AT "num" []
  D_REFERENCES_AT_cell : DTab K w r_REFERENCES_AT "cell" [1]
  D_REFERENCES_AT_add : DTab K w r_REFERENCES_AT "add" []
  D_REFERENCES_AT_sub : DTab K w r_REFERENCES_AT "sub" []
  D_REFERENCES_AT_mul : DTab K w r_REFERENCES_AT "mul" []
  D_REFERENCES_AT_pick : DTab K w r_REFERENCES_AT "pick" []
  D_REFERENCES_AT_sum : DTab K w r_REFERENCES_AT "sum" [1, 2]
  D_REFERENCES_AT_most : DTab K w r_REFERENCES_AT "most" [1, 2]
  D_REFERENCES_AT_look : DTab K w r_REFERENCES_AT "look" [2, 3]
section
variable {P : Program} {w : World} {K : PySem.W.Frag} {mg : Str → Option Value} {base : Heap}
/-- area -/
def B_area (T : Top K mg w) {k : Nat} {cdv : Value} {A : Around} {outer : List Env} {s : Shared} {H : Hp} {E : XK} (hr : Room k (A.deeper (envOfC "area" (defScope s_area) s.heap.objs.size T.a_area cdv))) :=
  (show PSs (cxOf CX0 P w K mg base ["one", "two", "rows", "columns", "row", "column"] "area" (defScope s_area) T.a_area cdv A outer s H E).nox (defBody s_area) _ from
    (pss_cons (ps_set (i := 2) sc_area.nd rfl (Or.inl rfl) (pe_callTy cr_range2 (by rfl) T.z_range (by decide +kernel) (pa_cons (pe_callB (call_min2 rfl) (by rfl) T.z_min (by decide +kernel) (pa_cons (pe_ix ix_tup (pv 0) pe_int (fun _ _ => rfl)) (pa_cons (pe_ix ix_tup (pv 1) pe_int (fun _ _ => rfl)) pa_nil))) (pa_cons (pe_op op_add (pe_callB (call_max2 rfl) (by rfl) T.z_max (by decide +kernel) (pa_cons (pe_ix ix_tup (pv 0) pe_int (fun _ _ => rfl)) (pa_cons (pe_ix ix_tup (pv 1) pe_int (fun _ _ => rfl)) pa_nil))) pe_int) pa_nil))))
      (pss_cons (ps_set (i := 3) sc_area.nd rfl (Or.inr rfl) (pe_callTy cr_range2 (by rfl) T.z_range (by decide +kernel) (pa_cons (pe_callB (call_min2 rfl) (by rfl) T.z_min (by decide +kernel) (pa_cons (pe_ix ix_tup (pv 0) pe_int (fun _ _ => rfl)) (pa_cons (pe_ix ix_tup (pv 1) pe_int (fun _ _ => rfl)) pa_nil))) (pa_cons (pe_op op_add (pe_callB (call_max2 rfl) (by rfl) T.z_max (by decide +kernel) (pa_cons (pe_ix ix_tup (pv 0) pe_int (fun _ _ => rfl)) (pa_cons (pe_ix ix_tup (pv 1) pe_int (fun _ _ => rfl)) pa_nil))) pe_int) pa_nil))))
      (pss_one (ps_ret (pe_lc2 (own := [("row", 4), ("column", 5)]) (vs1 := [5]) (g := gName 4) (g1 := gName 5) (tt := tYes) (tt1 := tYes) rfl sc_area.nd (pi_rngO (pv 2)) (blkOk_by (own := [("row", 4), ("column", 5)]) (N := ["one", "two", "rows", "columns", "row", "column"]) (sc := defScope s_area) (by decide +kernel)) (by decide) (fun _ _ _ _ _ => (pg_name (i := 4) sc_area.nd rfl (Or.inl rfl))) (fun _ _ _ _ _ => pts_nil) (fun _ _ _ _ _ => (pi_rngO (pv 3))) (fun _ _ _ _ _ => (pg_name (i := 5) sc_area.nd rfl (Or.inl rfl))) (fun _ _ _ _ _ => pts_nil) (fun _ _ _ _ _ => (pe_tup (pa_cons (pv 4) (pa_cons (pv 5) pa_nil))))))))))
/-- inner_rules -/
def B_inner_rules (T : Top K mg w) {k : Nat} {cdv : Value} {A : Around} {outer : List Env} {s : Shared} {H : Hp} {E : XK} (hr : Room k (A.deeper (envOfC "inner_rules" (defScope s_inner_rules) s.heap.objs.size T.a_inner_rules cdv))) :=
  (show PSs (cxOf CX0 P w K mg base ["rule", "at"] "inner_rules" (defScope s_inner_rules) T.a_inner_rules cdv A outer s H E).nox (defBody s_inner_rules) _ from
    (pss_one (ps_ret (pe_lc (own := [("at", 1)]) (g := gName 1) (tt := tYes) rfl sc_inner_rules.nd (pi_tup (pe_ix ix_kdict (pe_glob (v := V.ref T.r_RULES_AT) (by rfl) T.m_RULES_AT rfl) (pe_ix ix_tup (pv 0) pe_int (fun _ _ => rfl)) (fun _ _ => rfl))) (blkOk_by (own := [("at", 1)]) (N := ["rule", "at"]) (sc := defScope s_inner_rules) (by decide +kernel)) (fun _ _ _ _ _ => (pg_name (i := 1) sc_inner_rules.nd rfl (Or.inl rfl))) (fun _ _ _ _ _ => pts_nil) (fun _ _ _ _ _ => (pe_ix (ix_tupK (K := K) rfl) (pv 0) (pv 1) (fun _ _ => rfl)))))))
/-- references -/
def B_references (T : Top K mg w) {k : Nat} {cdv : Value} {A : Around} {outer : List Env} {s : Shared} {H : Hp} {E : XK} (hr : Room k (A.deeper (envOfC "references" (defScope s_references) s.heap.objs.size T.a_references cdv))) :=
  (show PSs (cxOf CX0 P w K mg base ["rule", "at"] "references" (defScope s_references) T.a_references cdv A outer s H E).nox (defBody s_references) _ from
    (pss_one (ps_ret (pe_lc (own := [("at", 1)]) (g := gName 1) (tt := tYes) rfl sc_references.nd (pi_tup (pe_ix ix_kdict (pe_glob (v := V.ref T.r_REFERENCES_AT) (by rfl) T.m_REFERENCES_AT rfl) (pe_ix ix_tup (pv 0) pe_int (fun _ _ => rfl)) (fun _ _ => rfl))) (blkOk_by (own := [("at", 1)]) (N := ["rule", "at"]) (sc := defScope s_references) (by decide +kernel)) (fun _ _ _ _ _ => (pg_name (i := 1) sc_references.nd rfl (Or.inl rfl))) (fun _ _ _ _ _ => pts_nil) (fun _ _ _ _ _ => (pe_ix (ix_tupK (K := K) rfl) (pv 0) (pv 1) (fun _ _ => rfl)))))))
/-- outer_first -/
def B_outer_first (T : Top K mg w) {j_inner_rules : Nat} {sp_inner_rules : Sp} {k : Nat} (G_inner_rules : FnOk P w K mg base CX0 j_inner_rules T.a_inner_rules T.d_inner_rules ["rule"] sp_inner_rules) (h_inner_rules : j_inner_rules ≤ k) {cdv : Value} {A : Around} {outer : List Env} {s : Shared} {H : Hp} {E : XK} (hr : Room k (A.deeper (envOfC "outer_first" (defScope s_outer_first) s.heap.objs.size T.a_outer_first cdv))) :=
  (show PSs (cxOf CX0 P w K mg base ["rule", "found", "waiting", "one"] "outer_first" (defScope s_outer_first) T.a_outer_first cdv A outer s H E).nox (defBody s_outer_first) _ from
    (pss_cons (ps_set (i := 1) sc_outer_first.nd rfl (Or.inl rfl) (pe_lst pa_nil))
      (pss_cons (ps_set (i := 2) sc_outer_first.nd rfl (Or.inl rfl) (pe_lst (pa_cons (pv 0) pa_nil)))
      (pss_cons (ps_while PassesOwn.never (pt_tru (K := K) rfl (pv 2) (by intro _; rfl)) (pss_cons (ps_set (i := 3) sc_outer_first.nd rfl (Or.inl rfl) (pe_bm0 PySem.F.plainAttrs_list PySem.F.slot_list_pop PySem.F.type_list_pop mt_pop (pv 2)))
      (pss_cons (ps_expr (pe_bm PySem.F.plainAttrs_list PySem.F.slot_list_append PySem.F.type_list_append mt_append (pv 1) (pa_cons (pv 3) pa_nil)))
      (pss_one (ps_expr (pe_bm PySem.F.plainAttrs_list PySem.F.slot_list_extend PySem.F.type_list_extend mt_extend (pv 2) (pa_cons (pe_call G_inner_rules (hr.mono (by omega)) (by rfl) T.m_inner_rules T.F_inner_rules.kp T.b_inner_rules .nil pass0 (pa_cons (pv 3) pa_nil)) pa_nil)))))))
      (pss_one (ps_ret (pv 1)))))))
/-- deep -/
def B_deep (T : Top K mg w) {j_inner_rules : Nat} {sp_inner_rules : Sp} {k : Nat} (G_inner_rules : FnOk P w K mg base CX0 j_inner_rules T.a_inner_rules T.d_inner_rules ["rule"] sp_inner_rules) (h_inner_rules : j_inner_rules ≤ k) {cdv : Value} {A : Around} {outer : List Env} {s : Shared} {H : Hp} {E : XK} (hr : Room k (A.deeper (envOfC "deep" (defScope s_deep) s.heap.objs.size T.a_deep cdv))) :=
  (show PSs (cxOf CX0 P w K mg base ["rule", "depth", "level", "one", "inner"] "deep" (defScope s_deep) T.a_deep cdv A outer s H E).nox (defBody s_deep) _ from
    (pss_cons (ps_set (i := 1) sc_deep.nd rfl (Or.inl rfl) pe_int)
      (pss_cons (ps_set (i := 2) sc_deep.nd rfl (Or.inl rfl) (pe_lst (pa_cons (pv 0) pa_nil)))
      (pss_cons (ps_while PassesOwn.never (pt_tru (K := K) rfl (pv 2) (by intro _; rfl)) (pss_cons (ps_aug (i := 1) sc_deep.nd rfl (Or.inl rfl) pe_int ip_add)
      (pss_one (ps_setLc2 (i := 2) (own := [("one", 3), ("inner", 4)]) (vs1 := [4]) (g := gName 3) (g1 := gName 4) (tt := tYes) (tt1 := tYes) rfl sc_deep.nd rfl rfl (sw_true rfl rfl rfl (by decide +kernel)) (pi_list (pv 2)) (blkOk_by (own := [("one", 3), ("inner", 4)]) (N := ["rule", "depth", "level", "one", "inner"]) (sc := defScope s_deep) (by decide +kernel)) (by decide) (fun _ _ _ _ _ => (pg_name (i := 3) sc_deep.nd rfl (Or.inl rfl))) (fun _ _ _ _ _ => pts_nil) (fun _ _ _ _ _ => (pi_listK (K := K) rfl (pe_call G_inner_rules (hr.mono (by omega)) (by rfl) T.m_inner_rules T.F_inner_rules.kp T.b_inner_rules .nil pass0 (pa_cons (pv 3) pa_nil)))) (fun _ _ _ _ _ => (pg_name (i := 4) sc_deep.nd rfl (Or.inl rfl))) (fun _ _ _ _ _ => pts_nil) (fun _ _ _ _ _ => (pv 4))))))
      (pss_one (ps_ret (pv 1)))))))
/-- named -/
def B_named (T : Top K mg w) {j_area : Nat} {sp_area : Sp} {j_references : Nat} {sp_references : Sp} {k : Nat} (G_area : FnOk P w K mg base CX0 j_area T.a_area T.d_area ["one", "two"] sp_area) (h_area : j_area ≤ k) (G_references : FnOk P w K mg base CX0 j_references T.a_references T.d_references ["rule"] sp_references) (h_references : j_references ≤ k) {cdv : Value} {A : Around} {outer : List Env} {s : Shared} {H : Hp} {E : XK} (hr : Room k (A.deeper (envOfC "named" (defScope s_named) s.heap.objs.size T.a_named cdv))) :=
  (show PSs (cxOf CX0 P w K mg base ["rule", "told"] "named" (defScope s_named) T.a_named cdv A outer s H E).nox (defBody s_named) _ from
    (pss_cons (ps_set (i := 1) sc_named.nd rfl (Or.inl rfl) (pe_call G_references (hr.mono (by omega)) (by rfl) T.m_references T.F_references.kp T.b_references .nil pass0 (pa_cons (pv 0) pa_nil)))
      (pss_cons (ps_if (pt_not (pt_tru (K := K) rfl (pv 1) (by intro _; rfl))) (pss_one (ps_ret (pe_lst pa_nil))) pss_nil)
      (pss_one (ps_ret (pe_call G_area (hr.mono (by omega)) (by rfl) T.m_area T.F_area.kp T.b_area .nil pass0 (pa_cons (pe_ix ix_list (pv 1) pe_int (fun _ _ => rfl)) (pa_cons (pe_ix ix_list (pv 1) (pe_un un_neg pe_int) (fun _ _ => rfl)) pa_nil))))))))
/-- needed -/
def B_needed (T : Top K mg w) {j_named : Nat} {sp_named : Sp} {j_outer_first : Nat} {sp_outer_first : Sp} {k : Nat} (G_named : FnOk P w K mg base CX0 j_named T.a_named T.d_named ["rule"] sp_named) (h_named : j_named ≤ k) (G_outer_first : FnOk P w K mg base CX0 j_outer_first T.a_outer_first T.d_outer_first ["rule"] sp_outer_first) (h_outer_first : j_outer_first ≤ k) {cdv : Value} {A : Around} {outer : List Env} {s : Shared} {H : Hp} {E : XK} (hr : Room k (A.deeper (envOfC "needed" (defScope s_needed) s.heap.objs.size T.a_needed cdv))) :=
  (show PSs (cxOf CX0 P w K mg base ["rule", "one", "place"] "needed" (defScope s_needed) T.a_needed cdv A outer s H E).nox (defBody s_needed) _ from
    (pss_one (ps_ret (pe_callB (cr_sortP rfl) (by rfl) T.z_sorted (by decide +kernel) (pa_cons (pe_sc2 (own := [("one", 1), ("place", 2)]) (vs1 := [2]) (g := gName 1) (g1 := gName 2) (tt := tYes) (tt1 := tYes) rfl sc_needed.nd hr.units (pi_list (pe_call G_outer_first (hr.mono (by omega)) (by rfl) T.m_outer_first T.F_outer_first.kp T.b_outer_first .nil pass0 (pa_cons (pv 0) pa_nil))) (blkOk_by (own := [("one", 1), ("place", 2)]) (N := ["rule", "one", "place"]) (sc := defScope s_needed) (by decide +kernel)) (by decide) (fun _ _ _ _ _ => (pg_name (i := 1) sc_needed.nd rfl (Or.inl rfl))) (fun _ _ _ _ _ => pts_nil) (fun _ _ _ _ _ => (pi_listK (K := K) rfl (pe_call G_named (hr.mono (by omega)) (by rfl) T.m_named T.F_named.kp T.b_named .nil pass0 (pa_cons (pv 1) pa_nil)))) (fun _ _ _ _ _ => (pg_name (i := 2) sc_needed.nd rfl (Or.inl rfl))) (fun _ _ _ _ _ => pts_nil) (fun _ _ _ _ _ => (pv 2))) pa_nil)))))
/-- _law_whole -/
def B__law_whole (T : Top K mg w) {k : Nat} {cdv : Value} {A : Around} {outer : List Env} {s : Shared} {H : Hp} {E : XK} (hr : Room k (A.deeper (envOfC "_law_whole" (defScope s__law_whole) s.heap.objs.size T.a__law_whole cdv))) :=
  (show PSs (cxOf CX0 P w K mg base ["_law_found"] "_law_whole" (defScope s__law_whole) T.a__law_whole cdv A outer s H E).nox (defBody s__law_whole) _ from
    (pss_one (ps_ret (pe_and (pe_callB call_isi (by rfl) T.z_isinstance (by decide +kernel) (pa_cons (pv 0) (pa_cons (pe_bltn (v := V.ty "int") (u := Value.type "int") (by rfl) T.z_int (by decide +kernel) rfl) pa_nil))) (pe_one (pe_not (pe_callB call_isi (by rfl) T.z_isinstance (by decide +kernel) (pa_cons (pv 0) (pa_cons (pe_bltn (v := V.ty "bool") (u := Value.type "bool") (by rfl) T.z_bool (by decide +kernel) rfl) pa_nil)))))))))
/-- _law_cell_at -/
def B__law_cell_at (T : Top K mg w) {k : Nat} {cdv : Value} {A : Around} {outer : List Env} {s : Shared} {H : Hp} {E : XK} (hr : Room k (A.deeper (envOfC "_law_cell_at" (defScope s__law_cell_at) s.heap.objs.size T.a__law_cell_at cdv))) :=
  (show PSs (cxOf CX0 P w K mg base ["_law_script", "_law_k"] "_law_cell_at" (defScope s__law_cell_at) T.a__law_cell_at cdv A outer s H E).nox (defBody s__law_cell_at) _ from
    (pss_cons (ps_if (pt_cmpR op_lt (pv 1) (pe_callB call_len_seq (by rfl) T.z_len (by decide +kernel) (pa_cons (pv 0) pa_nil)) (nomark _)) (pss_one (ps_ret (pe_ix ix_list (pv 0) (pv 1) (fun _ _ => rfl)))) pss_nil)
      (pss_one (ps_ret pe_int))))
/-- _law_ref_by -/
def B__law_ref_by (T : Top K mg w) {k : Nat} {cdv : Value} {A : Around} {outer : List Env} {s : Shared} {H : Hp} {E : XK} (hr : Room k (A.deeper (envOfC "_law_ref_by" (defScope s__law_ref_by) s.heap.objs.size T.a__law_ref_by cdv))) :=
  (show PSs (cxOf CX0 P w K mg base ["_law_cell", "_law_high", "_law_wide"] "_law_ref_by" (defScope s__law_ref_by) T.a__law_ref_by cdv A outer s H E).nox (defBody s__law_ref_by) _ from
    (pss_one (ps_ret (pe_tup (pa_cons (pe_op op_mod (pv 0) (pv 1)) (pa_cons (pe_op op_mod (pe_op op_fdiv (pv 0) pe_int) (pv 2)) (pa_cons (pe_cmpR op_eq (pe_op op_mod (pe_op op_fdiv (pv 0) pe_int) pe_int) pe_int (nomark _)) (pa_cons (pe_cmpR op_eq (pe_op op_mod (pe_op op_fdiv (pv 0) pe_int) pe_int) pe_int (nomark _)) pa_nil))))))))
/-- _law_leaf_by -/
def B__law_leaf_by (T : Top K mg w) {j__law_ref_by : Nat} {sp__law_ref_by : Sp} {k : Nat} (G__law_ref_by : FnOk P w K mg base CX0 j__law_ref_by T.a__law_ref_by T.d__law_ref_by ["_law_cell", "_law_high", "_law_wide"] sp__law_ref_by) (h__law_ref_by : j__law_ref_by ≤ k) {cdv : Value} {A : Around} {outer : List Env} {s : Shared} {H : Hp} {E : XK} (hr : Room k (A.deeper (envOfC "_law_leaf_by" (defScope s__law_leaf_by) s.heap.objs.size T.a__law_leaf_by cdv))) :=
  (show PSs (cxOf CX0 P w K mg base ["_law_cell", "_law_high", "_law_wide", "_law_more", "_law_one"] "_law_leaf_by" (defScope s__law_leaf_by) T.a__law_leaf_by cdv A outer s H E).nox (defBody s__law_leaf_by) _ from
    (pss_cons (ps_set (i := 3) sc__law_leaf_by.nd rfl (Or.inl rfl) (pe_op op_fdiv (pv 0) pe_int))
      (pss_cons (ps_set (i := 4) sc__law_leaf_by.nd rfl (Or.inl rfl) (pe_call G__law_ref_by (hr.mono (by omega)) (by rfl) T.m__law_ref_by T.F__law_ref_by.kp T.b__law_ref_by .nil pass0 (pa_cons (pv 3) (pa_cons (pv 1) (pa_cons (pv 2) pa_nil)))))
      (pss_cons (ps_if (pt_cmpR op_eq (pe_op op_mod (pv 0) pe_int) pe_int (nomark _)) (pss_one (ps_ret (pe_tup (pa_cons pe_str (pa_cons (pe_op op_mod (pv 3) (pe_op op_pow pe_int pe_int)) pa_nil))))) pss_nil)
      (pss_cons (ps_if (pt_cmpR op_eq (pe_op op_mod (pv 0) pe_int) pe_int (nomark _)) (pss_one (ps_ret (pe_tup (pa_cons pe_str (pa_cons (pv 4) (pa_cons (pe_call G__law_ref_by (hr.mono (by omega)) (by rfl) T.m__law_ref_by T.F__law_ref_by.kp T.b__law_ref_by .nil pass0 (pa_cons (pe_op op_mod (pe_op op_mul (pv 3) pe_int) pe_int) (pa_cons (pv 1) (pa_cons (pv 2) pa_nil)))) pa_nil)))))) pss_nil)
      (pss_cons (ps_if (pt_cmpR op_eq (pe_op op_mod (pv 0) pe_int) pe_int (nomark _)) (pss_one (ps_ret (pe_tup (pa_cons pe_str (pa_cons (pv 4) (pa_cons (pe_call G__law_ref_by (hr.mono (by omega)) (by rfl) T.m__law_ref_by T.F__law_ref_by.kp T.b__law_ref_by .nil pass0 (pa_cons (pe_op op_mod (pe_op op_mul (pv 3) pe_int) pe_int) (pa_cons (pv 1) (pa_cons (pv 2) pa_nil)))) pa_nil)))))) pss_nil)
      (pss_one (ps_ret (pe_tup (pa_cons pe_str (pa_cons (pv 4) pa_nil)))))))))))
/-- _law_inner -/
def B__law_inner (T : Top K mg w) {k : Nat} {cdv : Value} {A : Around} {outer : List Env} {s : Shared} {H : Hp} {E : XK} (hr : Room k (A.deeper (envOfC "_law_inner" (defScope s__law_inner) s.heap.objs.size T.a__law_inner cdv))) :=
  (show PSs (cxOf CX0 P w K mg base ["_law_rule"] "_law_inner" (defScope s__law_inner) T.a__law_inner cdv A outer s H E).nox (defBody s__law_inner) _ from
    (pss_cons (ps_if (pt_cmpR op_eq (pe_ix ix_tup (pv 0) pe_int (fun _ _ => rfl)) pe_str (nomark _)) (pss_one (ps_ret (pe_lst (pa_cons (pe_ix ix_tup (pv 0) pe_int (fun _ _ => rfl)) (pa_cons (pe_ix ix_tup (pv 0) pe_int (fun _ _ => rfl)) pa_nil))))) pss_nil)
      (pss_cons (ps_if (pt_cmpR op_in_seq (pe_ix ix_tup (pv 0) pe_int (fun _ _ => rfl)) (pe_lst (pa_cons pe_str (pa_cons pe_str (pa_cons pe_str (pa_cons pe_str pa_nil))))) (by rfl)) (pss_one (ps_ret (pe_callTy call_list_of (by rfl) T.z_list (by decide +kernel) (pa_cons (pe_slice sl_tup (pv 0) (po_some pe_int) po_none) pa_nil)))) pss_nil)
      (pss_one (ps_ret (pe_lst pa_nil))))))
/-- _law_made_by -/
def B__law_made_by (T : Top K mg w) {j__law_ref_by : Nat} {sp__law_ref_by : Sp} {k : Nat} (G__law_ref_by : FnOk P w K mg base CX0 j__law_ref_by T.a__law_ref_by T.d__law_ref_by ["_law_cell", "_law_high", "_law_wide"] sp__law_ref_by) (h__law_ref_by : j__law_ref_by ≤ k) {cdv : Value} {A : Around} {outer : List Env} {s : Shared} {H : Hp} {E : XK} (hr : Room k (A.deeper (envOfC "_law_made_by" (defScope s__law_made_by) s.heap.objs.size T.a__law_made_by cdv))) :=
  (show PSs (cxOf CX0 P w K mg base ["_law_stack", "_law_cell", "_law_high", "_law_wide", "_law_more", "_law_other"] "_law_made_by" (defScope s__law_made_by) T.a__law_made_by cdv A outer s H E).nox (defBody s__law_made_by) _ from
    (pss_cons (ps_set (i := 4) sc__law_made_by.nd rfl (Or.inl rfl) (pe_op op_fdiv (pv 1) pe_int))
      (pss_cons (ps_if (PW.pt (pw_and (pt_cmpR op_lt (pe_op op_mod (pv 1) pe_int) pe_int (nomark _)) (pw_and1 (pt_cmpR op_gt (pe_callB call_len_seq (by rfl) T.z_len (by decide +kernel) (pa_cons (pv 0) pa_nil)) pe_int (nomark _))))) (pss_one (ps_ret (pe_tup (pa_cons (pe_ix ix_list (pe_lst (pa_cons pe_str (pa_cons pe_str (pa_cons pe_str pa_nil)))) (pe_op op_mod (pv 1) pe_int) (fun _ _ => rfl)) (pa_cons (pe_ix ix_list (pv 0) (pe_un un_neg pe_int) (fun _ _ => rfl)) (pa_cons (pe_ix ix_list (pv 0) (pe_un un_neg pe_int) (fun _ _ => rfl)) pa_nil)))))) pss_nil)
      (pss_cons (ps_if (PW.pt (pw_and (pt_cmpR op_eq (pe_op op_mod (pv 1) pe_int) pe_int (nomark _)) (pw_and1 (pt_cmpR op_gt (pe_callB call_len_seq (by rfl) T.z_len (by decide +kernel) (pa_cons (pv 0) pa_nil)) pe_int (nomark _))))) (pss_one (ps_ret (pe_tup (pa_cons pe_str (pa_cons (pe_ix ix_list (pv 0) (pe_un un_neg pe_int) (fun _ _ => rfl)) (pa_cons (pe_ix ix_list (pv 0) (pe_un un_neg pe_int) (fun _ _ => rfl)) (pa_cons (pe_ix ix_list (pv 0) (pe_un un_neg pe_int) (fun _ _ => rfl)) pa_nil))))))) pss_nil)
      (pss_cons (ps_if (PW.pt (pw_and (pt_cmpR op_eq (pe_op op_mod (pv 1) pe_int) pe_int (nomark _)) (pw_and1 (pt_cmpR op_gt (pe_callB call_len_seq (by rfl) T.z_len (by decide +kernel) (pa_cons (pv 0) pa_nil)) pe_int (nomark _))))) (pss_cons (ps_set (i := 5) sc__law_made_by.nd rfl (Or.inl rfl) (pe_call G__law_ref_by (hr.mono (by omega)) (by rfl) T.m__law_ref_by T.F__law_ref_by.kp T.b__law_ref_by .nil pass0 (pa_cons (pe_op op_mod (pe_op op_mul (pv 4) pe_int) pe_int) (pa_cons (pv 2) (pa_cons (pv 3) pa_nil)))))
      (pss_one (ps_ret (pe_tup (pa_cons pe_str (pa_cons (pe_ix ix_list (pv 0) (pe_un un_neg pe_int) (fun _ _ => rfl)) (pa_cons (pe_call G__law_ref_by (hr.mono (by omega)) (by rfl) T.m__law_ref_by T.F__law_ref_by.kp T.b__law_ref_by .nil pass0 (pa_cons (pv 4) (pa_cons (pv 2) (pa_cons (pv 3) pa_nil)))) (pa_cons (pv 5) (pa_cons (pe_ix ix_list (pv 0) (pe_un un_neg pe_int) (fun _ _ => rfl)) pa_nil))))))))) pss_nil)
      (pss_one (ps_ret pe_non)))))))
/-- _law_tree_by -/
def B__law_tree_by (T : Top K mg w) {j__law_inner : Nat} {sp__law_inner : Sp} {j__law_leaf_by : Nat} {sp__law_leaf_by : Sp} {j__law_made_by : Nat} {sp__law_made_by : Sp} {k : Nat} (G__law_inner : FnOk P w K mg base CX0 j__law_inner T.a__law_inner T.d__law_inner ["_law_rule"] sp__law_inner) (h__law_inner : j__law_inner ≤ k) (G__law_leaf_by : FnOk P w K mg base CX0 j__law_leaf_by T.a__law_leaf_by T.d__law_leaf_by ["_law_cell", "_law_high", "_law_wide"] sp__law_leaf_by) (h__law_leaf_by : j__law_leaf_by ≤ k) (G__law_made_by : FnOk P w K mg base CX0 j__law_made_by T.a__law_made_by T.d__law_made_by ["_law_stack", "_law_cell", "_law_high", "_law_wide"] sp__law_made_by) (h__law_made_by : j__law_made_by ≤ k) {cdv : Value} {A : Around} {outer : List Env} {s : Shared} {H : Hp} {E : XK} (hr : Room k (A.deeper (envOfC "_law_tree_by" (defScope s__law_tree_by) s.heap.objs.size T.a__law_tree_by cdv))) :=
  (show PSs (cxOf CX0 P w K mg base ["_law_cells", "_law_high", "_law_wide", "_law_stack", "_law_cell", "_law_made"] "_law_tree_by" (defScope s__law_tree_by) T.a__law_tree_by cdv A outer s H E).nox (defBody s__law_tree_by) _ from
    (pss_cons (ps_set (i := 3) sc__law_tree_by.nd rfl (Or.inl rfl) (pe_lst (pa_cons (pe_tup (pa_cons pe_str (pa_cons pe_int pa_nil))) pa_nil)))
      (pss_cons (ps_for PassesOwn.never rfl (pi_list (pv 0)) (pg_name (i := 4) sc__law_tree_by.nd rfl (Or.inl rfl)) (pss_cons (ps_set (i := 5) sc__law_tree_by.nd rfl (Or.inl rfl) (pe_call G__law_made_by (hr.mono (by omega)) (by rfl) T.m__law_made_by T.F__law_made_by.kp T.b__law_made_by .nil pass0 (pa_cons (pv 3) (pa_cons (pv 4) (pa_cons (pv 1) (pa_cons (pv 2) pa_nil))))))
      (pss_one (ps_if (pt_cmpR op_isN (pv 5) pe_non (nomark _)) (pss_one (ps_expr (pe_bm PySem.F.plainAttrs_list PySem.F.slot_list_append PySem.F.type_list_append mt_append (pv 3) (pa_cons (pe_call G__law_leaf_by (hr.mono (by omega)) (by rfl) T.m__law_leaf_by T.F__law_leaf_by.kp T.b__law_leaf_by .nil pass0 (pa_cons (pe_op op_fdiv (pv 4) pe_int) (pa_cons (pv 1) (pa_cons (pv 2) pa_nil)))) pa_nil)))) (pss_cons (ps_set (i := 3) sc__law_tree_by.nd rfl (Or.inl rfl) (pe_slice sl_list (pv 3) po_none (po_some (pe_op op_sub (pe_callB call_len_seq (by rfl) T.z_len (by decide +kernel) (pa_cons (pv 3) pa_nil)) (pe_callB call_len_seq (by rfl) T.z_len (by decide +kernel) (pa_cons (pe_call G__law_inner (hr.mono (by omega)) (by rfl) T.m__law_inner T.F__law_inner.kp T.b__law_inner .nil pass0 (pa_cons (pv 5) pa_nil)) pa_nil))))))
      (pss_one (ps_expr (pe_bm PySem.F.plainAttrs_list PySem.F.slot_list_append PySem.F.type_list_append mt_append (pv 3) (pa_cons (pv 5) pa_nil)))))))))
      (pss_one (ps_ret (pe_ix ix_list (pv 3) (pe_un un_neg pe_int) (fun _ _ => rfl)))))))
/-- _law_deep -/
def B__law_deep (T : Top K mg w) {j__law_deep : Nat} {sp__law_deep : Sp} {j__law_inner : Nat} {sp__law_inner : Sp} {k : Nat} (G__law_deep : FnOk P w K mg base CX0 j__law_deep T.a__law_deep T.d__law_deep ["_law_rule"] sp__law_deep) (h__law_deep : j__law_deep ≤ k) (G__law_inner : FnOk P w K mg base CX0 j__law_inner T.a__law_inner T.d__law_inner ["_law_rule"] sp__law_inner) (h__law_inner : j__law_inner ≤ k) {cdv : Value} {A : Around} {outer : List Env} {s : Shared} {H : Hp} {E : XK} (hr : Room k (A.deeper (envOfC "_law_deep" (defScope s__law_deep) s.heap.objs.size T.a__law_deep cdv))) :=
  (show PSs (cxOf CX0 P w K mg base ["_law_rule", "_law_most", "_law_part"] "_law_deep" (defScope s__law_deep) T.a__law_deep cdv A outer s H E).nox (defBody s__law_deep) _ from
    (pss_cons (ps_set (i := 1) sc__law_deep.nd rfl (Or.inl rfl) pe_int)
      (pss_cons (ps_for PassesOwn.never rfl (pi_list (pe_call G__law_inner (hr.mono (by omega)) (by rfl) T.m__law_inner T.F__law_inner.kp T.b__law_inner .nil pass0 (pa_cons (pv 0) pa_nil))) (pg_name (i := 2) sc__law_deep.nd rfl (Or.inl rfl)) (pss_one (ps_set (i := 1) sc__law_deep.nd rfl (Or.inl rfl) (pe_callB (call_max2 rfl) (by rfl) T.z_max (by decide +kernel) (pa_cons (pv 1) (pa_cons (pe_call G__law_deep (hr.mono (by omega)) (by rfl) T.m__law_deep T.F__law_deep.kp T.b__law_deep .nil pass0 (pa_cons (pv 2) pa_nil)) pa_nil))))))
      (pss_one (ps_ret (pe_op op_add (pv 1) pe_int))))))
/-- _law_between -/
def B__law_between (T : Top K mg w) {k : Nat} {cdv : Value} {A : Around} {outer : List Env} {s : Shared} {H : Hp} {E : XK} (hr : Room k (A.deeper (envOfC "_law_between" (defScope s__law_between) s.heap.objs.size T.a__law_between cdv))) :=
  (show PSs (cxOf CX0 P w K mg base ["_law_one", "_law_two", "_law_place", "_law_rows"] "_law_between" (defScope s__law_between) T.a__law_between cdv A outer s H E).nox (defBody s__law_between) _ from
    (pss_cons (ps_set (i := 3) sc__law_between.nd rfl (Or.inl rfl) (pe_and (pe_cmpR op_le (pe_callB (call_min2 rfl) (by rfl) T.z_min (by decide +kernel) (pa_cons (pe_ix ix_tup (pv 0) pe_int (fun _ _ => rfl)) (pa_cons (pe_ix ix_tup (pv 1) pe_int (fun _ _ => rfl)) pa_nil))) (pe_ix ix_tup (pv 2) pe_int (fun _ _ => rfl)) (nomark _)) (pe_one (pe_cmpR op_le (pe_ix ix_tup (pv 2) pe_int (fun _ _ => rfl)) (pe_callB (call_max2 rfl) (by rfl) T.z_max (by decide +kernel) (pa_cons (pe_ix ix_tup (pv 0) pe_int (fun _ _ => rfl)) (pa_cons (pe_ix ix_tup (pv 1) pe_int (fun _ _ => rfl)) pa_nil))) (nomark _)))))
      (pss_one (ps_ret (pe_and (pv 3) (pe_and (pe_cmpR op_le (pe_callB (call_min2 rfl) (by rfl) T.z_min (by decide +kernel) (pa_cons (pe_ix ix_tup (pv 0) pe_int (fun _ _ => rfl)) (pa_cons (pe_ix ix_tup (pv 1) pe_int (fun _ _ => rfl)) pa_nil))) (pe_ix ix_tup (pv 2) pe_int (fun _ _ => rfl)) (nomark _)) (pe_one (pe_cmpR op_le (pe_ix ix_tup (pv 2) pe_int (fun _ _ => rfl)) (pe_callB (call_max2 rfl) (by rfl) T.z_max (by decide +kernel) (pa_cons (pe_ix ix_tup (pv 0) pe_int (fun _ _ => rfl)) (pa_cons (pe_ix ix_tup (pv 1) pe_int (fun _ _ => rfl)) pa_nil))) (nomark _)))))))))
/-- _law_names -/
def B__law_names (T : Top K mg w) {j__law_between : Nat} {sp__law_between : Sp} {j__law_inner : Nat} {sp__law_inner : Sp} {j__law_names : Nat} {sp__law_names : Sp} {k : Nat} (G__law_between : FnOk P w K mg base CX0 j__law_between T.a__law_between T.d__law_between ["_law_one", "_law_two", "_law_place"] sp__law_between) (h__law_between : j__law_between ≤ k) (G__law_inner : FnOk P w K mg base CX0 j__law_inner T.a__law_inner T.d__law_inner ["_law_rule"] sp__law_inner) (h__law_inner : j__law_inner ≤ k) (G__law_names : FnOk P w K mg base CX0 j__law_names T.a__law_names T.d__law_names ["_law_rule", "_law_place"] sp__law_names) (h__law_names : j__law_names ≤ k) {cdv : Value} {A : Around} {outer : List Env} {s : Shared} {H : Hp} {E : XK} (hr : Room k (A.deeper (envOfC "_law_names" (defScope s__law_names) s.heap.objs.size T.a__law_names cdv))) :=
  (show PSs (cxOf CX0 P w K mg base ["_law_rule", "_law_place", "_law_part"] "_law_names" (defScope s__law_names) T.a__law_names cdv A outer s H E).nox (defBody s__law_names) _ from
    (pss_cons (ps_if (PW.pt (pw_and (pt_cmpR op_eq (pe_ix ix_tup (pv 0) pe_int (fun _ _ => rfl)) pe_str (nomark _)) (pw_and1 (pt_cmpR (op_eqD hr.units) (pe_slice sl_tup (pe_ix ix_tup (pv 0) pe_int (fun _ _ => rfl)) po_none (po_some pe_int)) (pv 1) (nomark _))))) (pss_one (ps_ret pe_bl)) pss_nil)
      (pss_cons (ps_if (PW.pt (pw_and (pt_cmpR op_in_seq (pe_ix ix_tup (pv 0) pe_int (fun _ _ => rfl)) (pe_lst (pa_cons pe_str (pa_cons pe_str pa_nil))) (by rfl)) (pw_and1 (pt_val (pe_call G__law_between (hr.mono (by omega)) (by rfl) T.m__law_between T.F__law_between.kp T.b__law_between .nil pass0 (pa_cons (pe_ix ix_tup (pv 0) pe_int (fun _ _ => rfl)) (pa_cons (pe_ix ix_tup (pv 0) pe_int (fun _ _ => rfl)) (pa_cons (pv 1) pa_nil)))))))) (pss_one (ps_ret pe_bl)) pss_nil)
      (pss_cons (ps_if (PW.pt (pw_and (pt_cmpR op_eq (pe_ix ix_tup (pv 0) pe_int (fun _ _ => rfl)) pe_str (nomark _)) (pw_and1 (pt_val (pe_call G__law_between (hr.mono (by omega)) (by rfl) T.m__law_between T.F__law_between.kp T.b__law_between .nil pass0 (pa_cons (pe_ix ix_tup (pv 0) pe_int (fun _ _ => rfl)) (pa_cons (pe_ix ix_tup (pv 0) pe_int (fun _ _ => rfl)) (pa_cons (pv 1) pa_nil)))))))) (pss_one (ps_ret pe_bl)) pss_nil)
      (pss_cons (ps_for PassesOwn.never rfl (pi_list (pe_call G__law_inner (hr.mono (by omega)) (by rfl) T.m__law_inner T.F__law_inner.kp T.b__law_inner .nil pass0 (pa_cons (pv 0) pa_nil))) (pg_name (i := 2) sc__law_names.nd rfl (Or.inl rfl)) (pss_one (ps_if (pt_val (pe_call G__law_names (hr.mono (by omega)) (by rfl) T.m__law_names T.F__law_names.kp T.b__law_names .nil pass0 (pa_cons (pv 2) (pa_cons (pv 1) pa_nil)))) (pss_one (ps_ret pe_bl)) pss_nil)))
      (pss_one (ps_ret pe_bl)))))))
/-- _law_moved -/
def B__law_moved (T : Top K mg w) {j__law_moved : Nat} {sp__law_moved : Sp} {k : Nat} (G__law_moved : FnOk P w K mg base CX0 j__law_moved T.a__law_moved T.d__law_moved ["_law_part", "_law_down", "_law_right_here"] sp__law_moved) (h__law_moved : j__law_moved ≤ k) {cdv : Value} {A : Around} {outer : List Env} {s : Shared} {H : Hp} {E : XK} (hr : Room k (A.deeper (envOfC "_law_moved" (defScope s__law_moved) s.heap.objs.size T.a__law_moved cdv))) :=
  (show PSs (cxOf CX0 P w K mg base ["_law_part", "_law_down", "_law_right_here", "_law_one"] "_law_moved" (defScope s__law_moved) T.a__law_moved cdv A outer s H E).nox (defBody s__law_moved) _ from
    (pss_cons (ps_if (PW.pt (pw_and (pt_val (pe_callB call_isi (by rfl) T.z_isinstance (by decide +kernel) (pa_cons (pv 0) (pa_cons (pe_bltn (v := V.ty "tuple") (u := Value.type "tuple") (by rfl) T.z_tuple (by decide +kernel) rfl) pa_nil)))) (pw_and1 (pt_not (pt_val (pe_callB call_isi (by rfl) T.z_isinstance (by decide +kernel) (pa_cons (pe_ix ix_tup (pv 0) pe_int (fun _ _ => rfl)) (pa_cons (pe_bltn (v := V.ty "str") (u := Value.type "str") (by rfl) T.z_str (by decide +kernel) rfl) pa_nil)))))))) (pss_one (ps_ret (pe_tup (pa_cons (pe_op op_add (pe_ix ix_tup (pv 0) pe_int (fun _ _ => rfl)) (pv 1)) (pa_cons (pe_op op_add (pe_ix ix_tup (pv 0) pe_int (fun _ _ => rfl)) (pv 2)) (pa_cons (pe_ix ix_tup (pv 0) pe_int (fun _ _ => rfl)) (pa_cons (pe_ix ix_tup (pv 0) pe_int (fun _ _ => rfl)) pa_nil))))))) pss_nil)
      (pss_cons (ps_if (pt_val (pe_callB call_isi (by rfl) T.z_isinstance (by decide +kernel) (pa_cons (pv 0) (pa_cons (pe_bltn (v := V.ty "tuple") (u := Value.type "tuple") (by rfl) T.z_tuple (by decide +kernel) rfl) pa_nil)))) (pss_one (ps_ret (pe_callTy call_tuple_of (by rfl) T.z_tuple (by decide +kernel) (pa_cons (pe_lc (own := [("_law_one", 3)]) (g := gName 3) (tt := tYes) rfl sc__law_moved.nd (pi_tup (pv 0)) (blkOk_by (own := [("_law_one", 3)]) (N := ["_law_part", "_law_down", "_law_right_here", "_law_one"]) (sc := defScope s__law_moved) (by decide +kernel)) (fun _ _ _ _ _ => (pg_name (i := 3) sc__law_moved.nd rfl (Or.inl rfl))) (fun _ _ _ _ _ => pts_nil) (fun _ _ _ _ _ => (pe_call G__law_moved (hr.mono (by omega)) (by rfl) T.m__law_moved T.F__law_moved.kp T.b__law_moved .nil pass0 (pa_cons (pv 3) (pa_cons (pv 1) (pa_cons (pv 2) pa_nil)))))) pa_nil)))) pss_nil)
      (pss_one (ps_ret (pv 0))))))
/-- _law_right -/
def B__law_right (T : Top K mg w) {j__law_deep : Nat} {sp__law_deep : Sp} {j__law_names : Nat} {sp__law_names : Sp} {j__law_whole : Nat} {sp__law_whole : Sp} {j_deep : Nat} {sp_deep : Sp} {j_needed : Nat} {sp_needed : Sp} {k : Nat} (G__law_deep : FnOk P w K mg base CX0 j__law_deep T.a__law_deep T.d__law_deep ["_law_rule"] sp__law_deep) (h__law_deep : j__law_deep ≤ k) (G__law_names : FnOk P w K mg base CX0 j__law_names T.a__law_names T.d__law_names ["_law_rule", "_law_place"] sp__law_names) (h__law_names : j__law_names ≤ k) (G__law_whole : FnOk P w K mg base CX0 j__law_whole T.a__law_whole T.d__law_whole ["_law_found"] sp__law_whole) (h__law_whole : j__law_whole ≤ k) (G_deep : FnOk P w K mg base CX0 j_deep T.a_deep T.d_deep ["rule"] sp_deep) (h_deep : j_deep ≤ k) (G_needed : FnOk P w K mg base CX0 j_needed T.a_needed T.d_needed ["rule"] sp_needed) (h_needed : j_needed ≤ k) {cdv : Value} {A : Around} {outer : List Env} {s : Shared} {H : Hp} {E : XK} (hr : Room k (A.deeper (envOfC "_law_right" (defScope s__law_right) s.heap.objs.size T.a__law_right cdv))) :=
  (show PSs (cxOf CX0 P w K mg base ["_law_rule", "_law_high", "_law_wide", "_law_away", "_law_places", "_law_due", "_law_found", "_law_place", "_law_k"] "_law_right" (defScope s__law_right) T.a__law_right cdv A outer s H E).nox (defBody s__law_right) _ from
    (pss_cons (ps_setLc (i := 4) (own := [("_law_k", 8)]) (g := gName 8) (tt := tYes) rfl sc__law_right.nd rfl rfl (sw_true rfl rfl rfl (by decide +kernel)) (pi_range1 rfl T.z_range (pa_cons (pe_op op_mul (pv 1) (pv 2)) pa_nil)) (blkOk_by (own := [("_law_k", 8)]) (N := ["_law_rule", "_law_high", "_law_wide", "_law_away", "_law_places", "_law_due", "_law_found", "_law_place", "_law_k"]) (sc := defScope s__law_right) (by decide +kernel)) (fun _ _ _ _ _ => (pg_name (i := 8) sc__law_right.nd rfl (Or.inl rfl))) (fun _ _ _ _ _ => pts_nil) (fun _ _ _ _ _ => (pe_tup (pa_cons (pe_op op_add (pe_op op_fdiv (pv 8) (pv 2)) (pe_ix (ix_tupK (K := K) rfl) (pv 3) pe_int (fun _ _ => rfl))) (pa_cons (pe_op op_add (pe_op op_mod (pv 8) (pv 2)) (pe_ix (ix_tupK (K := K) rfl) (pv 3) pe_int (fun _ _ => rfl))) pa_nil)))))
      (pss_cons (ps_setLc (i := 5) (own := [("_law_place", 7)]) (g := gName 7) rfl sc__law_right.nd rfl rfl (sw_true rfl rfl rfl (by decide +kernel)) (pi_list (pv 4)) (blkOk_by (own := [("_law_place", 7)]) (N := ["_law_rule", "_law_high", "_law_wide", "_law_away", "_law_places", "_law_due", "_law_found", "_law_place", "_law_k"]) (sc := defScope s__law_right) (by decide +kernel)) (fun _ _ _ _ _ => (pg_name (i := 7) sc__law_right.nd rfl (Or.inl rfl))) (fun _ _ _ _ _ => (pts_one (pt_val (pe_call G__law_names (hr.mono (by omega)) (by rfl) T.m__law_names T.F__law_names.kp T.b__law_names .nil pass0 (pa_cons (pv 0) (pa_cons (pv 7) pa_nil)))))) (fun _ _ _ _ _ => (pv 7)))
      (pss_cons (ps_set (i := 6) sc__law_right.nd rfl (Or.inl rfl) (pe_call G_needed (hr.mono (by omega)) (by rfl) T.m_needed T.F_needed.kp T.b_needed .nil pass0 (pa_cons (pv 0) pa_nil)))
      (pss_cons (ps_if (PW.pt (pw_or (pt_not (pt_val (pe_callB call_isi (by rfl) T.z_isinstance (by decide +kernel) (pa_cons (pv 6) (pa_cons (pe_bltn (v := V.ty "list") (u := Value.type "list") (by rfl) T.z_list (by decide +kernel) rfl) pa_nil))))) (pw_or (pt_cmpR (op_neD hr.units) (pv 6) (pv 5) (nomark _)) (pw_or1 (pt_not (pt_val (pe_call G__law_whole (hr.mono (by omega)) (by rfl) T.m__law_whole T.F__law_whole.kp T.b__law_whole .nil pass0 (pa_cons (pe_call G_deep (hr.mono (by omega)) (by rfl) T.m_deep T.F_deep.kp T.b_deep .nil pass0 (pa_cons (pv 0) pa_nil)) pa_nil)))))))) (pss_one (ps_ret pe_bl)) pss_nil)
      (pss_cons (ps_for PassesOwn.never rfl (pi_list (pv 6)) (pg_name (i := 7) sc__law_right.nd rfl (Or.inl rfl)) (pss_one (ps_if (PW.pt (pw_or (pt_not (pt_val (pe_callB call_isi (by rfl) T.z_isinstance (by decide +kernel) (pa_cons (pv 7) (pa_cons (pe_bltn (v := V.ty "tuple") (u := Value.type "tuple") (by rfl) T.z_tuple (by decide +kernel) rfl) pa_nil))))) (pw_or (pt_not (pt_val (pe_call G__law_whole (hr.mono (by omega)) (by rfl) T.m__law_whole T.F__law_whole.kp T.b__law_whole .nil pass0 (pa_cons (pe_ix ix_tup (pv 7) pe_int (fun _ _ => rfl)) pa_nil)))) (pw_or1 (pt_not (pt_val (pe_call G__law_whole (hr.mono (by omega)) (by rfl) T.m__law_whole T.F__law_whole.kp T.b__law_whole .nil pass0 (pa_cons (pe_ix ix_tup (pv 7) pe_int (fun _ _ => rfl)) pa_nil)))))))) (pss_one (ps_ret pe_bl)) pss_nil)))
      (pss_one (ps_ret (pe_cmpR op_eq (pe_call G_deep (hr.mono (by omega)) (by rfl) T.m_deep T.F_deep.kp T.b_deep .nil pass0 (pa_cons (pv 0) pa_nil)) (pe_call G__law_deep (hr.mono (by omega)) (by rfl) T.m__law_deep T.F__law_deep.kp T.b__law_deep .nil pass0 (pa_cons (pv 0) pa_nil)) (nomark _))))))))))
/-- law -/
def B_law (T : Top K mg w) {j__law_cell_at : Nat} {sp__law_cell_at : Sp} {j__law_inner : Nat} {sp__law_inner : Sp} {j__law_moved : Nat} {sp__law_moved : Sp} {j__law_right : Nat} {sp__law_right : Sp} {j__law_tree_by : Nat} {sp__law_tree_by : Sp} {k : Nat} (G__law_cell_at : FnOk P w K mg base CX0 j__law_cell_at T.a__law_cell_at T.d__law_cell_at ["_law_script", "_law_k"] sp__law_cell_at) (h__law_cell_at : j__law_cell_at ≤ k) (G__law_inner : FnOk P w K mg base CX0 j__law_inner T.a__law_inner T.d__law_inner ["_law_rule"] sp__law_inner) (h__law_inner : j__law_inner ≤ k) (G__law_moved : FnOk P w K mg base CX0 j__law_moved T.a__law_moved T.d__law_moved ["_law_part", "_law_down", "_law_right_here"] sp__law_moved) (h__law_moved : j__law_moved ≤ k) (G__law_right : FnOk P w K mg base CX0 j__law_right T.a__law_right T.d__law_right ["_law_rule", "_law_high", "_law_wide", "_law_away"] sp__law_right) (h__law_right : j__law_right ≤ k) (G__law_tree_by : FnOk P w K mg base CX0 j__law_tree_by T.a__law_tree_by T.d__law_tree_by ["_law_cells", "_law_high", "_law_wide"] sp__law_tree_by) (h__law_tree_by : j__law_tree_by ≤ k) {cdv : Value} {A : Around} {outer : List Env} {s : Shared} {H : Hp} {E : XK} (hr : Room k (A.deeper (envOfC "law" (defScope s_law) s.heap.objs.size T.a_law cdv))) :=
  (show PSs (cxOf CX0 P w K mg base ["_law_script", "_law_high", "_law_wide", "_law_away", "_law_rule", "_law_part"] "law" (defScope s_law) T.a_law cdv A outer s H E).nox (defBody s_law) _ from
    (pss_cons (ps_set (i := 1) sc_law.nd rfl (Or.inl rfl) (pe_ix ix_list (pe_lst (pa_cons pe_int (pa_cons pe_int (pa_cons pe_int pa_nil)))) (pe_op op_mod (pe_call G__law_cell_at (hr.mono (by omega)) (by rfl) T.m__law_cell_at T.F__law_cell_at.kp T.b__law_cell_at .nil pass0 (pa_cons (pv 0) (pa_cons pe_int pa_nil))) pe_int) (fun _ _ => rfl)))
      (pss_cons (ps_set (i := 2) sc_law.nd rfl (Or.inl rfl) (pe_ix ix_list (pe_lst (pa_cons pe_int (pa_cons pe_int (pa_cons pe_int pa_nil)))) (pe_op op_mod (pe_call G__law_cell_at (hr.mono (by omega)) (by rfl) T.m__law_cell_at T.F__law_cell_at.kp T.b__law_cell_at .nil pass0 (pa_cons (pv 0) (pa_cons pe_int pa_nil))) pe_int) (fun _ _ => rfl)))
      (pss_cons (ps_set (i := 3) sc_law.nd rfl (Or.inl rfl) (pe_tup (pa_cons pe_int (pa_cons pe_int pa_nil))))
      (pss_cons (ps_if (pt_cmpR op_eq (pe_op op_mod (pe_op op_fdiv (pe_call G__law_cell_at (hr.mono (by omega)) (by rfl) T.m__law_cell_at T.F__law_cell_at.kp T.b__law_cell_at .nil pass0 (pa_cons (pv 0) (pa_cons pe_int pa_nil))) pe_int) pe_int) pe_int (nomark _)) (pss_one (ps_set (i := 3) sc_law.nd rfl (Or.inl rfl) (pe_tup (pa_cons (pe_op op_sub (pe_op op_mod (pe_op op_fdiv (pe_call G__law_cell_at (hr.mono (by omega)) (by rfl) T.m__law_cell_at T.F__law_cell_at.kp T.b__law_cell_at .nil pass0 (pa_cons (pv 0) (pa_cons pe_int pa_nil))) pe_int) pe_int) pe_int) (pa_cons (pe_op op_sub (pe_op op_mod (pe_call G__law_cell_at (hr.mono (by omega)) (by rfl) T.m__law_cell_at T.F__law_cell_at.kp T.b__law_cell_at .nil pass0 (pa_cons (pv 0) (pa_cons pe_int pa_nil))) pe_int) pe_int) pa_nil))))) pss_nil)
      (pss_cons (ps_set (i := 4) sc_law.nd rfl (Or.inl rfl) (pe_call G__law_moved (hr.mono (by omega)) (by rfl) T.m__law_moved T.F__law_moved.kp T.b__law_moved .nil pass0 (pa_cons (pe_call G__law_tree_by (hr.mono (by omega)) (by rfl) T.m__law_tree_by T.F__law_tree_by.kp T.b__law_tree_by .nil pass0 (pa_cons (pe_slice sl_list (pv 0) (po_some pe_int) (po_some pe_int)) (pa_cons (pv 1) (pa_cons (pv 2) pa_nil)))) (pa_cons (pe_ix ix_tup (pv 3) pe_int (fun _ _ => rfl)) (pa_cons (pe_ix ix_tup (pv 3) pe_int (fun _ _ => rfl)) pa_nil)))))
      (pss_cons (ps_if (pt_not (pt_val (pe_call G__law_right (hr.mono (by omega)) (by rfl) T.m__law_right T.F__law_right.kp T.b__law_right .nil pass0 (pa_cons (pv 4) (pa_cons (pv 1) (pa_cons (pv 2) (pa_cons (pv 3) pa_nil))))))) (pss_one (ps_ret pe_bl)) pss_nil)
      (pss_cons (ps_for PassesOwn.never rfl (pi_list (pe_call G__law_inner (hr.mono (by omega)) (by rfl) T.m__law_inner T.F__law_inner.kp T.b__law_inner .nil pass0 (pa_cons (pv 4) pa_nil))) (pg_name (i := 5) sc_law.nd rfl (Or.inl rfl)) (pss_one (ps_if (pt_not (pt_val (pe_call G__law_right (hr.mono (by omega)) (by rfl) T.m__law_right T.F__law_right.kp T.b__law_right .nil pass0 (pa_cons (pv 5) (pa_cons (pv 1) (pa_cons (pv 2) (pa_cons (pv 3) pa_nil))))))) (pss_one (ps_ret pe_bl)) pss_nil)))
      (pss_one (ps_ret pe_bl))))))))))
end
end K02

/-! places, areas, what a rule names -/
namespace Pl
open PySem PySem.Spec L2 Pu Pr
abbrev P2 := Int × Int
def k2 (p : P2) : List Int := [p.1, p.2]
def pD (p : P2) : PyData := .tuple [.int p.1, .int p.2]
theorem pD_tup (p : P2) : pD p = tupD (k2 p) := rfl
def plD (ps : List P2) : List PyData := ps.map pD
theorem plD_imm (ps : List P2) : immAll (plD ps) = true := immAll_iff fun d hd => by
  obtain ⟨p, _, rfl⟩ := List.mem_map.mp hd
  rfl
def areaP (r1 c1 r2 c2 : Int) : List P2 :=
  (List.range (max r1 r2 + 1 - min r1 r2).toNat).flatMap fun i => (List.range (max c1 c2 + 1 - min c1 c2).toNat).map fun j => (min r1 r2 + (i : Nat), min c1 c2 + (j : Nat))
theorem areaP_len (r1 c1 r2 c2 : Int) : (areaP r1 c1 r2 c2).length = (max r1 r2 + 1 - min r1 r2).toNat * (max c1 c2 + 1 - min c1 c2).toNat := by
  unfold areaP
  rw [List.length_flatMap]
  simp only [List.length_map, List.length_range]
  rw [List.map_const', List.length_range, List.sum_replicate_nat]
theorem mem_area {r1 c1 r2 c2 : Int} {p : P2} : p ∈ areaP r1 c1 r2 c2 ↔ (min r1 r2 ≤ p.1 ∧ p.1 ≤ max r1 r2) ∧ min c1 c2 ≤ p.2 ∧ p.2 ≤ max c1 c2 := by
  unfold areaP
  rw [List.mem_flatMap]
  constructor
  · rintro ⟨i, hi, hp⟩
    obtain ⟨j, hj, rfl⟩ := List.mem_map.mp hp
    rw [List.mem_range] at hi hj
    show (min r1 r2 ≤ min r1 r2 + (i : Nat) ∧ min r1 r2 + (i : Nat) ≤ max r1 r2) ∧ min c1 c2 ≤ min c1 c2 + (j : Nat) ∧ min c1 c2 + (j : Nat) ≤ max c1 c2
    omega
  · obtain ⟨x, y⟩ := p
    rintro ⟨⟨h1, h2⟩, h3, h4⟩
    have h1 : min r1 r2 ≤ x := h1
    have h2 : x ≤ max r1 r2 := h2
    have h3 : min c1 c2 ≤ y := h3
    have h4 : y ≤ max c1 c2 := h4
    refine ⟨(x - min r1 r2).toNat, List.mem_range.mpr (by omega), List.mem_map.mpr ⟨(y - min c1 c2).toNat, List.mem_range.mpr (by omega), ?_⟩⟩
    refine Prod.ext ?_ ?_
    · show min r1 r2 + ((x - min r1 r2).toNat : Int) = x
      omega
    · show min c1 c2 + ((y - min c1 c2).toNat : Int) = y
      omega
theorem rngD_flat (lo : Int) (n : Nat) (lo2 : Int) (m : Nat) : ((rngD lo n).flatMap fun d => (rngD lo2 m).map fun d1 => PyData.tuple [d, d1]) = plD ((List.range n).flatMap fun i => (List.range m).map fun j => (lo + (i : Nat), lo2 + (j : Nat))) := by
  unfold rngD plD
  rw [List.flatMap_map, List.map_flatMap]
  congr 1
  funext i
  rw [List.map_map, List.map_map]
  rfl
/-- two numbers, and more behind them -/
structure Cor where
  r : Int
  c : Int
  x : List PyData
def Cor.d (a : Cor) : PyData := .tuple (.int a.r :: .int a.c :: a.x)
def cor (x : Rf) : Cor := ⟨x.r, x.c, [.bool x.rs, .bool x.cs]⟩
theorem cor_d (x : Rf) : (cor x).d = x.d := rfl
/-! ### a rule's own references, its places -/
def refs : Rl → List Rf
  | .num _ => []
  | .cell p => [p]
  | .add _ _ => []
  | .sub _ _ => []
  | .mul _ _ => []
  | .pick _ _ _ => []
  | .sum p q => [p, q]
  | .most p q => [p, q]
  | .look _ p q _ => [p, q]
def named : Rl → List P2
  | .num _ => []
  | .cell p => areaP p.r p.c p.r p.c
  | .add _ _ => []
  | .sub _ _ => []
  | .mul _ _ => []
  | .pick _ _ _ => []
  | .sum p q => areaP p.r p.c q.r q.c
  | .most p q => areaP p.r p.c q.r q.c
  | .look _ p q _ => areaP p.r p.c q.r q.c
def btw (x y : Rf) (p : P2) : Bool := (decide (min x.r y.r ≤ p.1) && decide (p.1 ≤ max x.r y.r)) && (decide (min x.c y.c ≤ p.2) && decide (p.2 ≤ max x.c y.c))
def names : Rl → P2 → Bool
  | .num _, _ => false
  | .cell x, p => decide (x.r = p.1 ∧ x.c = p.2)
  | .add a b, p => names a p || names b p
  | .sub a b, p => names a p || names b p
  | .mul a b, p => names a p || names b p
  | .pick a b c, p => names a p || (names b p || names c p)
  | .sum x y, p => btw x y p
  | .most x y, p => btw x y p
  | .look a x y b, p => btw x y p || (names a p || names b p)
theorem btw_iff {x y : Rf} {p : P2} : btw x y p = true ↔ p ∈ areaP x.r x.c y.r y.c := by
  unfold btw
  rw [mem_area]
  simp
theorem cell_iff {x : Rf} {p : P2} : p ∈ areaP x.r x.c x.r x.c ↔ x.r = p.1 ∧ x.c = p.2 := by
  rw [mem_area]
  omega
theorem names_iff (r : Rl) (p : P2) : names r p = true ↔ ∃ o ∈ r.outer, p ∈ named o := by
  induction r with
  | num n => simp [names, Rl.outer, named]
  | cell x => simp [names, Rl.outer, named, cell_iff]
  | sum x y => simp [names, Rl.outer, named, btw_iff]
  | most x y => simp [names, Rl.outer, named, btw_iff]
  | add a b h1 h2 => simp only [names, Rl.outer, named, Bool.or_eq_true, h1, h2, List.mem_cons, List.mem_append, or_and_right, exists_or, exists_eq_left, List.not_mem_nil, false_or]; exact or_comm
  | sub a b h1 h2 => simp only [names, Rl.outer, named, Bool.or_eq_true, h1, h2, List.mem_cons, List.mem_append, or_and_right, exists_or, exists_eq_left, List.not_mem_nil, false_or]; exact or_comm
  | mul a b h1 h2 => simp only [names, Rl.outer, named, Bool.or_eq_true, h1, h2, List.mem_cons, List.mem_append, or_and_right, exists_or, exists_eq_left, List.not_mem_nil, false_or]; exact or_comm
  | pick a b c h1 h2 h3 =>
    simp only [names, Rl.outer, named, Bool.or_eq_true, h1, h2, h3, List.mem_cons, List.mem_append, or_and_right, exists_or, exists_eq_left, List.not_mem_nil, false_or]
    constructor
    · rintro (h | h | h)
      · exact .inr (.inr h)
      · exact .inr (.inl h)
      · exact .inl h
    · rintro (h | h | h)
      · exact .inr (.inr h)
      · exact .inr (.inl h)
      · exact .inl h
  | look a x y b h1 h2 =>
    simp only [names, Rl.outer, named, Bool.or_eq_true, h1, h2, btw_iff, List.mem_cons, List.mem_append, or_and_right, exists_or, exists_eq_left]
    constructor
    · rintro (h | h | h)
      · exact .inl h
      · exact .inr (.inr h)
      · exact .inr (.inl h)
    · rintro (h | h | h)
      · exact .inl h
      · exact .inr (.inr h)
      · exact .inr (.inl h)
/-! ### how deep -/
def dp : Rl → Nat
  | .num _ => 1
  | .cell _ => 1
  | .add a b => max (dp a) (dp b) + 1
  | .sub a b => max (dp a) (dp b) + 1
  | .mul a b => max (dp a) (dp b) + 1
  | .pick a b c => max (dp a) (max (dp b) (dp c)) + 1
  | .sum _ _ => 1
  | .most _ _ => 1
  | .look a _ _ b => max (dp a) (dp b) + 1
def mx (L : List Rl) : Nat := L.foldr (fun r m => max (dp r) m) 0
theorem mx_nil : mx [] = 0 := rfl
theorem mx_cons (r : Rl) (L : List Rl) : mx (r :: L) = max (dp r) (mx L) := rfl
theorem mx_app (L M : List Rl) : mx (L ++ M) = max (mx L) (mx M) := by
  induction L with
  | nil => rw [List.nil_append, mx_nil]; omega
  | cons r L ih => rw [List.cons_append, mx_cons, mx_cons, ih]; omega
theorem dp_inner (r : Rl) : dp r = mx r.inner + 1 := by
  cases r <;> simp only [dp, Rl.inner, mx_cons, mx_nil] <;> omega
theorem mx_flat (r : Rl) (L : List Rl) : mx (r :: L) = mx ((r :: L).flatMap Rl.inner) + 1 := by
  induction L generalizing r with
  | nil => rw [mx_cons, mx_nil, List.flatMap_singleton, dp_inner]; omega
  | cons s L ih =>
    rw [mx_cons, ih s, List.flatMap_cons (x := r), mx_app, dp_inner r]
    omega
theorem sz_flat (L : List Rl) : ((L.flatMap Rl.inner).map Rl.size).sum + L.length = (L.map Rl.size).sum := by
  induction L with
  | nil => rfl
  | cons r L ih =>
    rw [List.flatMap_cons, List.map_append, List.sum_append, List.map_cons, List.sum_cons, List.length_cons, Rl.size_inner r]
    omega
/-! ### the places that there are -/
structure Bx where
  h : Nat
  w : Nat
  a : Int
  b : Int
def Bx.ps (B : Bx) : List P2 := (List.range (B.h * B.w)).map fun k => (((k / B.w : Nat) : Int) + B.a, ((k % B.w : Nat) : Int) + B.b)
def Bx.has (B : Bx) (r c : Int) : Prop := B.a ≤ r ∧ r < B.a + B.h ∧ B.b ≤ c ∧ c < B.b + B.w
/-- a sheet of these laws -/
structure Bx.Ok (B : Bx) : Prop where
  hw : 0 < B.w
  few : B.h * B.w < 63
  lo : -100 ≤ B.b
  hi : B.b ≤ 100
  w2 : B.w ≤ 100
theorem Bx.mem {B : Bx} (hw : 0 < B.w) {p : P2} : p ∈ B.ps ↔ B.has p.1 p.2 := by
  unfold Bx.ps Bx.has
  rw [List.mem_map]
  constructor
  · rintro ⟨k, hk, rfl⟩
    rw [List.mem_range] at hk
    have h1 : k / B.w < B.h := (Nat.div_lt_iff_lt_mul hw).mpr hk
    have h2 := Nat.mod_lt k hw
    show B.a ≤ ((k / B.w : Nat) : Int) + B.a ∧ ((k / B.w : Nat) : Int) + B.a < B.a + B.h ∧ B.b ≤ ((k % B.w : Nat) : Int) + B.b ∧ ((k % B.w : Nat) : Int) + B.b < B.b + B.w
    generalize k / B.w = u at h1 ⊢
    generalize k % B.w = v at h2 ⊢
    omega
  · obtain ⟨x, y⟩ := p
    rintro ⟨h1, h2, h3, h4⟩
    have h1 : B.a ≤ x := h1
    have h2 : x < B.a + B.h := h2
    have h3 : B.b ≤ y := h3
    have h4 : y < B.b + B.w := h4
    obtain ⟨i, rfl⟩ : ∃ i : Nat, x = B.a + i := ⟨(x - B.a).toNat, by omega⟩
    obtain ⟨j, rfl⟩ : ∃ j : Nat, y = B.b + j := ⟨(y - B.b).toNat, by omega⟩
    have hj : j < B.w := by omega
    have hi : i < B.h := by omega
    refine ⟨B.w * i + j, List.mem_range.mpr ?_, ?_⟩
    · have : B.w * (i + 1) ≤ B.w * B.h := Nat.mul_le_mul_left _ hi
      rw [Nat.mul_add, Nat.mul_one] at this
      rw [Nat.mul_comm B.h B.w]
      omega
    · rw [Nat.mul_add_div hw, Nat.div_eq_of_lt hj, Nat.mul_add_mod, Nat.mod_eq_of_lt hj]
      refine Prod.ext ?_ ?_
      · show ((i + 0 : Nat) : Int) + B.a = B.a + i
        omega
      · show ((j : Nat) : Int) + B.b = B.b + j
        omega
theorem Bx.pr {B : Bx} (ok : B.Ok) {p : P2} (h : B.has p.1 p.2) : Pr2 (k2 p) := by
  obtain ⟨h1, h2, h3, h4⟩ := h
  have := ok.lo
  have := ok.hi
  have := ok.w2
  exact ⟨p.1, p.2, rfl, by omega, by omega⟩
theorem Bx.sorted {B : Bx} (ok : B.Ok) : (B.ps.map k2).Pairwise fun a b => rk2 a < rk2 b := by
  unfold Bx.ps
  rw [List.map_map, List.pairwise_map]
  refine List.Pairwise.imp_of_mem (fun {i j} _ _ hij => ?_) List.pairwise_lt_range
  show (((i / B.w : Nat) : Int) + B.a) * 1000 + (((i % B.w : Nat) : Int) + B.b) < (((j / B.w : Nat) : Int) + B.a) * 1000 + (((j % B.w : Nat) : Int) + B.b)
  have hw := ok.hw
  have w2 := ok.w2
  have d1 := Nat.div_add_mod i B.w
  have d2 := Nat.div_add_mod j B.w
  have m1 := Nat.mod_lt i hw
  have le : i / B.w ≤ j / B.w := Nat.div_le_div_right (Nat.le_of_lt hij)
  by_cases e : i / B.w = j / B.w
  · rw [e] at d1 ⊢
    omega
  · omega
def inb (B : Bx) : Rl → Prop
  | .num _ => True
  | .cell p => B.has p.r p.c
  | .add a b => inb B a ∧ inb B b
  | .sub a b => inb B a ∧ inb B b
  | .mul a b => inb B a ∧ inb B b
  | .pick a b c => inb B a ∧ inb B b ∧ inb B c
  | .sum p q => B.has p.r p.c ∧ B.has q.r q.c
  | .most p q => B.has p.r p.c ∧ B.has q.r q.c
  | .look a p q b => inb B a ∧ B.has p.r p.c ∧ B.has q.r q.c ∧ inb B b
theorem inb_outer {B : Bx} {r : Rl} (h : inb B r) : ∀ o ∈ r.outer, inb B o := by
  induction r with
  | num n => simp [Rl.outer, h]
  | cell x => simp [Rl.outer, h]
  | sum x y => simp [Rl.outer, h]
  | most x y => simp [Rl.outer, h]
  | add a b h1 h2 =>
    intro o ho
    rcases List.mem_cons.mp ho with rfl | ho
    · exact h
    · exact (List.mem_append.mp ho).elim (h2 h.2 o) (h1 h.1 o)
  | sub a b h1 h2 =>
    intro o ho
    rcases List.mem_cons.mp ho with rfl | ho
    · exact h
    · exact (List.mem_append.mp ho).elim (h2 h.2 o) (h1 h.1 o)
  | mul a b h1 h2 =>
    intro o ho
    rcases List.mem_cons.mp ho with rfl | ho
    · exact h
    · exact (List.mem_append.mp ho).elim (h2 h.2 o) (h1 h.1 o)
  | pick a b c h1 h2 h3 =>
    intro o ho
    rcases List.mem_cons.mp ho with rfl | ho
    · exact h
    · exact (List.mem_append.mp ho).elim (h3 h.2.2 o) fun ho => (List.mem_append.mp ho).elim (h2 h.2.1 o) (h1 h.1 o)
  | look a x y b h1 h2 =>
    intro o ho
    rcases List.mem_cons.mp ho with rfl | ho
    · exact h
    · exact (List.mem_append.mp ho).elim (h2 h.2.2.2 o) (h1 h.1 o)
theorem area_in {B : Bx} {r1 c1 r2 c2 : Int} (h1 : B.has r1 c1) (h2 : B.has r2 c2) {p : P2} (h : p ∈ areaP r1 c1 r2 c2) : B.has p.1 p.2 := by
  rw [mem_area] at h
  unfold Bx.has at *
  omega
theorem named_in {B : Bx} {o : Rl} (h : inb B o) {p : P2} (hp : p ∈ named o) : B.has p.1 p.2 := by
  cases o with
  | cell x => exact area_in h h hp
  | sum x y => exact area_in h.1 h.2 hp
  | most x y => exact area_in h.1 h.2 hp
  | look a x y b => exact area_in h.2.1 h.2.2.1 hp
  | _ => cases hp
theorem area_few {B : Bx} (ok : B.Ok) {r1 c1 r2 c2 : Int} (h1 : B.has r1 c1) (h2 : B.has r2 c2) : (areaP r1 c1 r2 c2).length ≤ 50000 := by
  rw [areaP_len]
  have e1 : (max r1 r2 + 1 - min r1 r2).toNat ≤ B.h := by unfold Bx.has at *; omega
  have e2 : (max c1 c2 + 1 - min c1 c2).toNat ≤ B.w := by unfold Bx.has at *; omega
  have := Nat.mul_le_mul e1 e2
  have := ok.few
  omega
theorem named_few {B : Bx} (ok : B.Ok) {o : Rl} (h : inb B o) : (named o).length ≤ 50000 := by
  cases o with
  | cell x => exact area_few ok h h
  | sum x y => exact area_few ok h.1 h.2
  | most x y => exact area_few ok h.1 h.2
  | look a x y b => exact area_few ok h.2.1 h.2.2.1
  | _ => exact Nat.zero_le _
/-- what a rule needs, rising -/
def need (B : Bx) (r : Rl) : List P2 := B.ps.filter (names r)
theorem need_sorted {B : Bx} (ok : B.Ok) (r : Rl) : ((need B r).map k2).Pairwise fun a b => rk2 a < rk2 b :=
  (B.sorted ok).sublist (List.filter_sublist.map k2)
theorem k2_inj {p q : P2} (h : k2 p = k2 q) : p = q := by
  obtain ⟨a, b⟩ := p
  obtain ⟨c, d⟩ := q
  unfold k2 at h
  simp at h
  exact Prod.ext h.1 h.2
theorem need_mem {B : Bx} (ok : B.Ok) {r : Rl} (h : inb B r) (k : List Int) : k ∈ (need B r).map k2 ↔ ∃ o ∈ r.outer, ∃ p ∈ named o, k2 p = k := by
  constructor
  · intro hk
    obtain ⟨p, hp, rfl⟩ := List.mem_map.mp hk
    obtain ⟨_, hn⟩ := List.mem_filter.mp hp
    obtain ⟨o, ho, hq⟩ := (names_iff r p).mp hn
    exact ⟨o, ho, p, hq, rfl⟩
  · rintro ⟨o, ho, p, hp, rfl⟩
    refine List.mem_map.mpr ⟨p, List.mem_filter.mpr ⟨(Bx.mem ok.hw).mpr (named_in (inb_outer h o ho) hp), (names_iff r p).mpr ⟨o, ho, hp⟩⟩, rfl⟩
end Pl

namespace K02
open PySem PySem.Spec L2 Pu Pr Pl
open Evl (Ex rLenS rMax2 rListS)
open PyProof.Rows (envOfC)
/-! own words of the walk -/
local macro_rules | `(tactic| walk_at "side") => `(tactic| first
  | rfl | exact at_m1 | exact at_m1' | exact at_m1'' | exact at_m2 | exact at_m2' | exact at_m3 | exact at0 | exact at1 | exact at2 | exact at3 | exact at4 | assumption | decide | omega | exact ⟨by decide, by decide⟩ | exact ⟨by omega, by omega⟩ | exact Or.inr ⟨by omega, by omega⟩ | exact Or.inl ⟨by omega, by omega⟩ | exact Or.inr ⟨by decide, by decide⟩)
local macro_rules | `(tactic| walk_at "ec") => `(tactic| fail)
local macro_rules | `(tactic| walk_at "fc") => `(tactic| fail)
local macro_rules | `(tactic| walk_at "tab") => `(tactic| assumption)
local macro_rules | `(tactic| walk_at "shape") => `(tactic| first | rfl | assumption)
local macro_rules | `(tactic| walk_at "e") => `(tactic| first
  | exact ev_int | exact ev_str | exact ev_bl | exact ev_non | exact ev_var rfl
  | (apply ev_ixO; (rfl); (walk_at "x"); (walk_at "side"))
  | (apply ev_ixT; (walk_at "e"); (walk_at "x"); (walk_at "side"))
  | (apply ev_ixL; (walk_at "e"); (walk_at "x"); (walk_at "side"))
  | (apply ev_I0; (walk_at "x"); (walk_at "x"); (rfl))
  | (apply ev_I0b; (walk_at "x"); (walk_at "x"); (rfl))
  | (apply ev_I; (walk_at "x"); (walk_at "x"); (rfl); (walk_at "side"))
  | (apply ev_neg; (walk_at "x"); (rfl))
  | (apply ev_eqI; (walk_at "x"); (walk_at "x"))
  | (apply ev_eqS; (walk_at "x"); (walk_at "x"))
  | (apply ev_eqB; (walk_at "x"); (walk_at "x"))
  | (apply ev_neI; (walk_at "x"); (walk_at "x"))
  | (apply ev_neS; (walk_at "x"); (walk_at "x"))
  | (apply ev_eqD; (walk_at "x"); (walk_at "x"); (walk_at "shape"); (walk_at "shape"))
  | (apply ev_neD; (walk_at "x"); (walk_at "x"); (walk_at "shape"); (walk_at "shape"))
  | (apply ev_andV; (walk_at "x"); (intro _; walk_at "x"))
  | (apply ev_orV; (walk_at "x"); (intro _; walk_at "x"))
  | (apply ev_notV; (walk_at "x"))
  | (apply ev_tup; (walk_at "s"); (exact Nat.le_of_ble_eq_true rfl))
  | (apply ev_slTb; (walk_at "e"); (walk_at "o"); (walk_at "o"); (rfl))
  | (apply ev_lenL; (walk_at "x"))
  | (apply ev_lenT; (walk_at "x"))
  | (apply ev_min2; (walk_at "x"); (walk_at "x"))
  | (apply ev_max2; (walk_at "x"); (walk_at "x"))
  | (apply ev_isi; (walk_at "x"); (first | exact kb_int_int | exact kb_int_bool | exact kb_int_str | exact kb_int_list | exact kb_int_tuple | exact kb_bool_int | exact kb_bool_bool | exact kb_bool_str | exact kb_bool_list | exact kb_bool_tuple | exact kb_str_int | exact kb_str_bool | exact kb_str_str | exact kb_str_list | exact kb_str_tuple | exact kb_list_int | exact kb_list_bool | exact kb_list_str | exact kb_list_list | exact kb_list_tuple | exact kb_tuple_int | exact kb_tuple_bool | exact kb_tuple_str | exact kb_tuple_list | exact kb_tuple_tuple | exact kb_NoneType_int | exact kb_NoneType_bool | exact kb_NoneType_str | exact kb_NoneType_list | exact kb_NoneType_tuple))
  | (apply ev_intB; (walk_at "x"))
  | (apply ev_ixD; (walk_at "x"); (walk_at "tab"))
  | (apply ev_isN; (walk_at "x"))
  | (apply ev_tupO; (rfl))
  | (apply ev_tupL; (walk_at "e"))
  | walk_at "ec"
  | (apply ev_fresh; (walk_at "f")))
local macro_rules | `(tactic| walk_at "f") => `(tactic| first
  | (apply ef_lst; (walk_at "s"); (exact Nat.le_of_ble_eq_true rfl))
  | (apply ef_catA; (walk_at "e"); (walk_at "e"); (walk_at "side"))
  | (apply ef_slO; (rfl); (walk_at "o"); (walk_at "o"))
  | (apply ef_slL; (walk_at "e"); (walk_at "o"); (walk_at "o"))
  | (apply ef_listT; (walk_at "e"))
  | (apply ef_listL; (walk_at "e"))
  | walk_at "fc")
local macro_rules | `(tactic| walk_at "x") => `(tactic| first
  | exact ev_varO rfl
  | (apply ev_weak; (walk_at "e")))
local macro_rules | `(tactic| walk_at "o") => `(tactic| first
  | exact eo_none
  | (apply eo_some; (walk_at "x")))
local macro_rules | `(tactic| walk_at "a") => `(tactic| first
  | exact ea_nil
  | (apply ea_cons; (walk_at "x"); (walk_at "a")))
local macro_rules | `(tactic| walk_at "s") => `(tactic| first
  | exact es_nil
  | (apply es_cons; (walk_at "e"); (walk_at "s")))
local macro_rules | `(tactic| walk_at "b") => `(tactic| first
  | exact eb_yes
  | (apply eb_test; (walk_at "x"))
  | (apply eb_B; (walk_at "x"))
  | (apply eb_truB; (walk_at "x"))
  | (apply eb_truL; (walk_at "x"))
  | (apply eb_truT; (walk_at "x"))
  | (apply eb_truI; (walk_at "x"))
  | (apply eb_not; (walk_at "b"))
  | (apply eb_and; (walk_at "b"); (intro _; walk_at "b"))
  | (apply eb_or; (walk_at "b"); (intro _; walk_at "b")))
section
variable {P : Program} {w : World} {K : PySem.W.Frag} {mg : Str → Option Value} {base : Heap}
abbrev sp_area (K : PySem.W.Frag) : Sp := spL (α := Cor × Cor) K (fun a => [a.1.d, a.2.d]) (fun a => (areaP a.1.r a.1.c a.2.r a.2.c).length ≤ 50000) (fun a => plD (areaP a.1.r a.1.c a.2.r a.2.c))
theorem ok_area (T : Top K mg w) : FnOk P w K mg base CX0 1 T.a_area T.d_area ["one", "two"] (sp_area K) := by
  refine fn_lst T.F_area sc_area (fun _ => rfl) fun cdv A outer s H E hr => ⟨_, B_area T hr, fun a hp => ?_⟩
  obtain ⟨⟨r1, c1, x1⟩, ⟨r2, c2, x2⟩⟩ := a
  show Ws K _ [.dat (.tuple (.int r1 :: .int c1 :: x1)), .dat (.tuple (.int r2 :: .int c2 :: x2)), .no, .no, .no, .no] _
  apply w_seq
  apply w_asgR
  · walk_at "a"
  apply w_seq
  apply w_asgR
  · walk_at "a"
  refine w_retF (ds := plD (areaP r1 c1 r2 c2)) (ev_isF (ef_lc2 (fun _ => rngD (min c1 c2) (max c1 c2 + 1 - min c1 c2).toNat) (fun d d1 => .tuple [d, d1]) (ei_rngO rfl) ?_ (wipe_set (by decide)) (wipe_set (by decide)) ?_ ?_) (rngD_flat ..)) rfl
  · rw [rngD_flat]
    unfold plD
    rw [List.length_map]
    exact hp
  · intro d hd
    exact ei_rngO rfl
  · intro d hd d1 hd1
    walk_at "e"
theorem fc_area {es : Es} {ta tb : TE} {a b : Cor} {E : XK} (h : EvX K ta es a.d) (h2 : EvX K tb es b.d) (h0 : (areaP a.r a.c b.r b.c).length ≤ 50000) : EvF K (tCall (sp_area K) [] E (tCons ta (tCons tb tNil))) es (plD (areaP a.r a.c b.r b.c)) :=
  ef_call (args := fun a : Cor × Cor => [a.1.d, a.2.d]) (a, b) (ea_cons h (ea_cons h2 ea_nil)) h0 (plD_imm _)
abbrev sp_inner_rules (K : PySem.W.Frag) : Sp := spL (α := Rl) K (fun r => [r.d]) (fun _ => True) (fun r => r.inner.map Rl.d)
abbrev sp_references (K : PySem.W.Frag) : Sp := spL (α := Rl) K (fun r => [r.d]) (fun _ => True) (fun r => (refs r).map Rf.d)
local macro_rules | `(tactic| walk_at "none") => `(tactic| (refine w_retF (ev_isF (ef_lcA (gx []) (ei_tup (ev_ixD ?_ ‹_›)) (Nat.le_of_ble_eq_true rfl) (wipe_set (by decide)) ?_) rfl) rfl; (walk_at "x"); (exact fun d hd => nomatch hd)))
theorem ok_inner (T : Top K mg w) : FnOk P w K mg base CX0 1 T.a_inner_rules T.d_inner_rules ["rule"] (sp_inner_rules K) := by
  refine fn_lst T.F_inner_rules sc_inner_rules (fun _ => rfl) fun cdv A outer s H E hr => ⟨_, B_inner_rules T hr, fun r hp => ?_⟩
  show Ws K _ [.dat r.d, .no] _
  cases r with
  | num n =>
    refine w_retF (ev_isF (ef_lcA (gx []) (ei_tup (ev_ixD ?_ T.D_RULES_AT_num)) (Nat.le_of_ble_eq_true rfl) (wipe_set (by decide)) ?_) rfl) rfl
    · walk_at "x"
    · exact fun d hd => nomatch hd
  | cell p =>
    refine w_retF (ev_isF (ef_lcA (gx []) (ei_tup (ev_ixD ?_ T.D_RULES_AT_cell)) (Nat.le_of_ble_eq_true rfl) (wipe_set (by decide)) ?_) rfl) rfl
    · walk_at "x"
    · exact fun d hd => nomatch hd
  | sum p q =>
    refine w_retF (ev_isF (ef_lcA (gx []) (ei_tup (ev_ixD ?_ T.D_RULES_AT_sum)) (Nat.le_of_ble_eq_true rfl) (wipe_set (by decide)) ?_) rfl) rfl
    · walk_at "x"
    · exact fun d hd => nomatch hd
  | most p q =>
    refine w_retF (ev_isF (ef_lcA (gx []) (ei_tup (ev_ixD ?_ T.D_RULES_AT_most)) (Nat.le_of_ble_eq_true rfl) (wipe_set (by decide)) ?_) rfl) rfl
    · walk_at "x"
    · exact fun d hd => nomatch hd
  | add a b =>
    refine w_retF (ev_isF (ef_lcA (gx [.str "add", a.d, b.d]) (ei_tup (ev_ixD ?_ T.D_RULES_AT_add)) (Nat.le_of_ble_eq_true rfl) (wipe_set (by decide)) ?_) rfl) rfl
    · walk_at "x"
    · refine List.forall_mem_cons.mpr ⟨?_, List.forall_mem_cons.mpr ⟨?_, fun d hd => nomatch hd⟩⟩ <;> walk_at "e"
  | sub a b =>
    refine w_retF (ev_isF (ef_lcA (gx [.str "sub", a.d, b.d]) (ei_tup (ev_ixD ?_ T.D_RULES_AT_sub)) (Nat.le_of_ble_eq_true rfl) (wipe_set (by decide)) ?_) rfl) rfl
    · walk_at "x"
    · refine List.forall_mem_cons.mpr ⟨?_, List.forall_mem_cons.mpr ⟨?_, fun d hd => nomatch hd⟩⟩ <;> walk_at "e"
  | mul a b =>
    refine w_retF (ev_isF (ef_lcA (gx [.str "mul", a.d, b.d]) (ei_tup (ev_ixD ?_ T.D_RULES_AT_mul)) (Nat.le_of_ble_eq_true rfl) (wipe_set (by decide)) ?_) rfl) rfl
    · walk_at "x"
    · refine List.forall_mem_cons.mpr ⟨?_, List.forall_mem_cons.mpr ⟨?_, fun d hd => nomatch hd⟩⟩ <;> walk_at "e"
  | pick a b c =>
    refine w_retF (ev_isF (ef_lcA (gx [.str "pick", a.d, b.d, c.d]) (ei_tup (ev_ixD ?_ T.D_RULES_AT_pick)) (Nat.le_of_ble_eq_true rfl) (wipe_set (by decide)) ?_) rfl) rfl
    · walk_at "x"
    · refine List.forall_mem_cons.mpr ⟨?_, List.forall_mem_cons.mpr ⟨?_, List.forall_mem_cons.mpr ⟨?_, fun d hd => nomatch hd⟩⟩⟩ <;> walk_at "e"
  | look a p q b =>
    refine w_retF (ev_isF (ef_lcA (gx [.str "look", a.d, p.d, q.d, b.d]) (ei_tup (ev_ixD ?_ T.D_RULES_AT_look)) (Nat.le_of_ble_eq_true rfl) (wipe_set (by decide)) ?_) rfl) rfl
    · walk_at "x"
    · refine List.forall_mem_cons.mpr ⟨?_, List.forall_mem_cons.mpr ⟨?_, fun d hd => nomatch hd⟩⟩ <;> walk_at "e"
theorem ok_refs (T : Top K mg w) : FnOk P w K mg base CX0 1 T.a_references T.d_references ["rule"] (sp_references K) := by
  refine fn_lst T.F_references sc_references (fun _ => rfl) fun cdv A outer s H E hr => ⟨_, B_references T hr, fun r hp => ?_⟩
  show Ws K _ [.dat r.d, .no] _
  cases r with
  | num n =>
    refine w_retF (ev_isF (ef_lcA (gx []) (ei_tup (ev_ixD ?_ T.D_REFERENCES_AT_num)) (Nat.le_of_ble_eq_true rfl) (wipe_set (by decide)) ?_) rfl) rfl
    · walk_at "x"
    · exact fun d hd => nomatch hd
  | add a b =>
    refine w_retF (ev_isF (ef_lcA (gx []) (ei_tup (ev_ixD ?_ T.D_REFERENCES_AT_add)) (Nat.le_of_ble_eq_true rfl) (wipe_set (by decide)) ?_) rfl) rfl
    · walk_at "x"
    · exact fun d hd => nomatch hd
  | sub a b =>
    refine w_retF (ev_isF (ef_lcA (gx []) (ei_tup (ev_ixD ?_ T.D_REFERENCES_AT_sub)) (Nat.le_of_ble_eq_true rfl) (wipe_set (by decide)) ?_) rfl) rfl
    · walk_at "x"
    · exact fun d hd => nomatch hd
  | mul a b =>
    refine w_retF (ev_isF (ef_lcA (gx []) (ei_tup (ev_ixD ?_ T.D_REFERENCES_AT_mul)) (Nat.le_of_ble_eq_true rfl) (wipe_set (by decide)) ?_) rfl) rfl
    · walk_at "x"
    · exact fun d hd => nomatch hd
  | pick a b c =>
    refine w_retF (ev_isF (ef_lcA (gx []) (ei_tup (ev_ixD ?_ T.D_REFERENCES_AT_pick)) (Nat.le_of_ble_eq_true rfl) (wipe_set (by decide)) ?_) rfl) rfl
    · walk_at "x"
    · exact fun d hd => nomatch hd
  | cell p =>
    refine w_retF (ev_isF (ef_lcA (gx [.str "cell", p.d]) (ei_tup (ev_ixD ?_ T.D_REFERENCES_AT_cell)) (Nat.le_of_ble_eq_true rfl) (wipe_set (by decide)) ?_) rfl) rfl
    · walk_at "x"
    · refine List.forall_mem_cons.mpr ⟨?_, fun d hd => nomatch hd⟩
      walk_at "e"
  | sum p q =>
    refine w_retF (ev_isF (ef_lcA (gx [.str "sum", p.d, q.d]) (ei_tup (ev_ixD ?_ T.D_REFERENCES_AT_sum)) (Nat.le_of_ble_eq_true rfl) (wipe_set (by decide)) ?_) rfl) rfl
    · walk_at "x"
    · refine List.forall_mem_cons.mpr ⟨?_, List.forall_mem_cons.mpr ⟨?_, fun d hd => nomatch hd⟩⟩ <;> walk_at "e"
  | most p q =>
    refine w_retF (ev_isF (ef_lcA (gx [.str "most", p.d, q.d]) (ei_tup (ev_ixD ?_ T.D_REFERENCES_AT_most)) (Nat.le_of_ble_eq_true rfl) (wipe_set (by decide)) ?_) rfl) rfl
    · walk_at "x"
    · refine List.forall_mem_cons.mpr ⟨?_, List.forall_mem_cons.mpr ⟨?_, fun d hd => nomatch hd⟩⟩ <;> walk_at "e"
  | look a p q b =>
    refine w_retF (ev_isF (ef_lcA (gx [.str "look", a.d, p.d, q.d, b.d]) (ei_tup (ev_ixD ?_ T.D_REFERENCES_AT_look)) (Nat.le_of_ble_eq_true rfl) (wipe_set (by decide)) ?_) rfl) rfl
    · walk_at "x"
    · refine List.forall_mem_cons.mpr ⟨?_, List.forall_mem_cons.mpr ⟨?_, fun d hd => nomatch hd⟩⟩ <;> walk_at "e"
theorem fc_inner {es : Es} {ta : TE} {r : Rl} {E : XK} (h : EvX K ta es r.d) : EvF K (tCall (sp_inner_rules K) [] E (tCons ta tNil)) es (r.inner.map Rl.d) :=
  ef_call (args := fun r : Rl => [r.d]) r (ea_cons h ea_nil) True.intro (Rl.imm_all _)
theorem refs_imm (xs : List Rf) : immAll (xs.map Rf.d) = true := immAll_iff fun d hd => by
  obtain ⟨p, _, rfl⟩ := List.mem_map.mp hd
  rfl
theorem fc_refs {es : Es} {ta : TE} {r : Rl} {E : XK} (h : EvX K ta es r.d) : EvF K (tCall (sp_references K) [] E (tCons ta tNil)) es ((refs r).map Rf.d) :=
  ef_call (args := fun r : Rl => [r.d]) r (ea_cons h ea_nil) True.intro (refs_imm _)
abbrev sp_outer_first (K : PySem.W.Frag) : Sp := spL (α := Rl) K (fun r => [r.d]) (fun r => r.size ≤ 1000) (fun r => r.outer.map Rl.d)
theorem ok_outer (T : Top K mg w) : FnOk P w K mg base CX0 2 T.a_outer_first T.d_outer_first ["rule"] (sp_outer_first K) := by
  refine fn_lst T.F_outer_first sc_outer_first (fun _ => rfl) fun cdv A outer s H E hr => ⟨_, B_outer_first T (ok_inner T) (by decide) hr, fun r hp => ?_⟩
  show Ws K _ [.dat r.d, .no, .no, .no] _
  apply w_seq
  apply w_asgF
  · walk_at "f"
  apply w_seq
  apply w_asgF
  · walk_at "f"
  apply w_seq
  refine w_while (fun m e => ∃ F W x, F ++ W.reverse.flatMap Rl.outer = r.outer ∧ m = (W.map Rl.size).sum ∧ e = [.dat r.d, .own (F.map Rl.d), .own (W.map Rl.d), x]) _ ⟨[], [r], _, by simp, rfl, rfl⟩ ?_
  rintro m e ⟨F, W, x, hF, rfl, rfl⟩
  have hlen : F.length + (W.map Rl.size).sum ≤ 1000 := by
    have h := congrArg List.length hF
    rw [List.length_append, Rl.flat_len, Rl.outer_len] at h
    have : r.size ≤ 1000 := hp
    omega
  refine ⟨_, eb_truL (ev_varO rfl), fun hb => ?_, fun hb => ?_⟩
  · rcases List.eq_nil_or_concat W with rfl | ⟨W', y, rfl⟩
    · cases hb
    rw [List.concat_eq_append] at hF hlen ⊢
    apply w_seq
    refine w_pop (i := 2) (j := 3) (ds := W'.map Rl.d) (d := y.d) (by decide) (by rw [List.map_append]; rfl) ?_
    apply w_seq
    refine w_append (i := 1) rfl (ev_var rfl) (by rw [List.length_map]; omega) ?_
    have e0 := Rl.size_inner y
    rw [List.map_append, List.sum_append] at hlen
    have hlen : F.length + ((W'.map Rl.size).sum + y.size) ≤ 1000 := by simpa using hlen
    have l1 := Rl.len_le W'
    have l2 := Rl.len_le y.inner
    refine w_extend (i := 2) rfl (fc_inner (ev_weak (ev_var rfl))) (by rw [List.length_map, List.length_map]; omega) ?_
    refine ⟨((W' ++ y.inner).map Rl.size).sum, ?_, F ++ [y], W' ++ y.inner, .dat y.d, ?_, rfl, ?_⟩
    · rw [List.map_append, List.sum_append, List.map_append, List.sum_append]
      simp only [List.map_cons, List.map_nil, List.sum_cons, List.sum_nil]
      omega
    · rw [← hF, List.reverse_append, List.reverse_append, List.flatMap_append, List.flatMap_append, List.append_assoc]
      simp only [List.reverse_cons, List.reverse_nil, List.nil_append, List.flatMap_cons, List.flatMap_nil, List.append_nil]
      rw [Rl.outer_eq y]
      rfl
    · have m1 : (F ++ [y]).map Rl.d = F.map Rl.d ++ [y.d] := List.map_append
      have m2 : (W' ++ y.inner).map Rl.d = W'.map Rl.d ++ y.inner.map Rl.d := List.map_append
      rw [m1, m2]
      rfl
  · have hW : W = [] := by
      cases W with
      | nil => rfl
      | cons a b => cases hb
    subst hW
    have hF' : F = r.outer := by simpa using hF
    subst hF'
    exact w_retO rfl rfl
theorem fc_outer {es : Es} {ta : TE} {r : Rl} {E : XK} (h : EvX K ta es r.d) (hz : r.size ≤ 1000) : EvF K (tCall (sp_outer_first K) [] E (tCons ta tNil)) es (r.outer.map Rl.d) :=
  ef_call (args := fun r : Rl => [r.d]) r (ea_cons h ea_nil) hz (Rl.imm_all _)
/-! ### how deep a rule is -/
abbrev sp_deep (K : PySem.W.Frag) : Sp := spF (α := Rl) K (fun r => [r.d]) (fun r => r.size ≤ 1000) (fun r => .int (dp r : Nat))
theorem ok_deep (T : Top K mg w) : FnOk P w K mg base CX0 2 T.a_deep T.d_deep ["rule"] (sp_deep K) := by
  refine fn_val T.F_deep sc_deep (fun _ => rfl) fun cdv A outer s H E hr => ⟨_, B_deep T (ok_inner T) (by decide) hr, fun r hp => ?_⟩
  have hp : r.size ≤ 1000 := hp
  show Ws K _ [.dat r.d, .no, .no, .no, .no] _
  apply w_seq
  apply w_asg
  · walk_at "e"
  apply w_seq
  apply w_asg (ev_fresh (ef_lst (es_cons (ev_var rfl) es_nil) (Nat.le_of_ble_eq_true rfl)))
  apply w_seq
  refine w_while (fun m e => ∃ (k : Nat) (L : List Rl), k + mx L = dp r ∧ m = mx L ∧ (L.map Rl.size).sum ≤ 1000 ∧ e = [.dat r.d, .dat (.int k), .dat (.list (L.map Rl.d)), .no, .no]) _ ⟨0, [r], by rw [mx_cons, mx_nil]; omega, rfl, by simpa using hp, rfl⟩ ?_
  rintro m e ⟨k, L, hk, rfl, hz, rfl⟩
  refine ⟨_, eb_truL (ev_weak (ev_var rfl)), fun hb => ?_, fun hb => ?_⟩
  · cases L with
    | nil => cases hb
    | cons x L =>
      have e1 := mx_flat x L
      have e2 := sz_flat (x :: L)
      have e3 := Rl.len_le ((x :: L).flatMap Rl.inner)
      apply w_seq
      apply w_aug rfl
      · walk_at "x"
      refine w_asg (d := .list (((x :: L).flatMap Rl.inner).map Rl.d)) (ev_fresh (ev_isF (ef_lc2A (as := x :: L) (enc := Rl.d) (enc1 := Rl.d) Rl.inner (fun _ y => y.d) (ei_list (ev_var rfl)) ?_ (wipe_set (by decide)) (wipe_set (by decide)) (fun d hd => ei_list (ev_fresh (fc_inner (ev_weak (ev_var rfl))))) fun d hd y hy => ev_var rfl) ?_)) ?_
      · rw [← List.map_flatMap, List.length_map]
        omega
      · rw [List.map_flatMap]
      · exact ⟨mx ((x :: L).flatMap Rl.inner), by omega, k + 1, (x :: L).flatMap Rl.inner, by omega, rfl, by omega, rfl⟩
  · cases L with
    | cons a b => cases hb
    | nil =>
      rw [mx_nil] at hk
      apply w_ret
      · walk_at "x"
      · left
        show Rt.val (.int (k : Nat)) = Rt.val (.int (dp r : Nat))
        rw [← hk]
        rfl
/-! ### the places that a rule names, and needs -/
abbrev sp_named (K : PySem.W.Frag) : Sp := spL (α := Rl) K (fun r => [r.d]) (fun r => (named r).length ≤ 50000) (fun r => plD (named r))
theorem ok_named (T : Top K mg w) : FnOk P w K mg base CX0 2 T.a_named T.d_named ["rule"] (sp_named K) := by
  refine fn_lst T.F_named sc_named (fun _ => rfl) fun cdv A outer s H E hr => ⟨_, B_named T (ok_area T) (by decide) (ok_refs T) (by decide) hr, fun r hp => ?_⟩
  show Ws K _ [.dat r.d, .no] _
  apply w_seq
  apply w_asgF (fc_refs (ev_weak (ev_var rfl)))
  apply w_seq
  refine w_if (eb_not (eb_truL (ev_varO rfl))) (fun hb => ?_) (fun hb => ?_)
  · have e : named r = [] := by
      cases r <;> first | rfl | cases hb
    refine w_retF (ds := []) (ef_lst es_nil (Nat.zero_le _)) ?_
    show Rt.fresh [] = Rt.fresh (plD (named r))
    rw [e]
    rfl
  · apply w_next
    have two : ∀ p q : Rf, named r = areaP p.r p.c q.r q.c → (refs r).map Rf.d = [p.d, q.d] ∨ (p = q ∧ (refs r).map Rf.d = [p.d]) → Ws K (tRet (tCall (sp_area K) [] E (tCons (tOp (rIxL K) (tVar 1) (tC (.int 0))) (tCons (tOp (rIxL K) (tVar 1) (tUn (rU fun i => .int (-i)) (tC (.int 1)))) tNil)))) [.dat r.d, .own ((refs r).map Rf.d)] { rt := fun x => x = .fresh (plD (named r)) } := fun p q e1 e2 => by
      rw [e1]
      have hp : (named r).length ≤ 50000 := hp
      rw [e1] at hp
      rcases e2 with e2 | ⟨rfl, e2⟩
      · rw [e2]
        refine w_retF (fc_area (a := cor p) (b := cor q) ?_ ?_ hp) rfl
        · rw [cor_d]
          walk_at "x"
        · rw [cor_d]
          refine ev_weak (ev_ixO rfl (ev_weak (ev_neg (ev_weak ev_int) rfl)) ?_)
          exact at_m1' (s := [])
      · rw [e2]
        refine w_retF (fc_area (a := cor p) (b := cor p) ?_ ?_ hp) rfl
        · rw [cor_d]
          walk_at "x"
        · rw [cor_d]
          refine ev_weak (ev_ixO rfl (ev_weak (ev_neg (ev_weak ev_int) rfl)) ?_)
          exact at_m1 (s := [])
    cases r with
    | cell p => exact two p p rfl (.inr ⟨rfl, rfl⟩)
    | sum p q => exact two p q rfl (.inl rfl)
    | most p q => exact two p q rfl (.inl rfl)
    | look a p q b => exact two p q rfl (.inl rfl)
    | _ => cases hb
theorem fc_named {es : Es} {ta : TE} {r : Rl} {E : XK} (h : EvX K ta es r.d) (hz : (named r).length ≤ 50000) : EvF K (tCall (sp_named K) [] E (tCons ta tNil)) es (plD (named r)) :=
  ef_call (args := fun r : Rl => [r.d]) r (ea_cons h ea_nil) hz (plD_imm _)
abbrev sp_needed (K : PySem.W.Frag) : Sp := spL (α := Rl × Bx) K (fun a => [a.1.d]) (fun a => a.1.size ≤ 1000 ∧ a.2.Ok ∧ inb a.2 a.1) (fun a => plD (need a.2 a.1))
theorem ok_needed (T : Top K mg w) : FnOk P w K mg base CX0 3 T.a_needed T.d_needed ["rule"] (sp_needed K) := by
  refine fn_lst T.F_needed sc_needed (fun _ => rfl) fun cdv A outer s H E hr => ⟨_, B_needed T (ok_named T) (by decide) (ok_outer T) (by decide) hr, fun a hp => ?_⟩
  obtain ⟨r, B⟩ := a
  obtain ⟨hz, ok, hin⟩ : r.size ≤ 1000 ∧ B.Ok ∧ inb B r := hp
  show Ws K _ [.dat r.d, .no, .no] _
  refine w_retF (ds := plD (need B r)) (ev_isF (ef_sortP ((need B r).map k2) (et_sc2 (as := r.outer) (enc := Rl.d) (enc1 := pD) named (fun _ p => k2 p) (B.ps.map k2) ?_ (ei_list (ev_fresh (fc_outer (ev_weak (ev_var rfl)) hz))) (wipe_set (by decide)) (wipe_set (by decide)) (fun o ho => ei_list (ev_fresh (fc_named (ev_weak (ev_var rfl)) (named_few ok (inb_outer hin o ho))))) ?_ fun o ho p hp => ev_var rfl) ?_ (need_sorted ok r) (need_mem ok hin)) ?_) rfl
  · rw [List.length_map]
    unfold Bx.ps
    rw [List.length_map, List.length_range]
    exact ok.few
  · intro o ho p hp
    exact List.mem_map.mpr ⟨p, (Bx.mem ok.hw).mpr (named_in (inb_outer hin o ho) hp), rfl⟩
  · rintro k ⟨o, ho, p, hp, rfl⟩
    exact Bx.pr ok (named_in (inb_outer hin o ho) hp)
  · rw [List.map_map]
    rfl
theorem fc_needed {es : Es} {ta : TE} {r : Rl} {B : Bx} {E : XK} (h : EvX K ta es r.d) (hz : r.size ≤ 1000) (ok : B.Ok) (hin : inb B r) : EvF K (tCall (sp_needed K) [] E (tCons ta tNil)) es (plD (need B r)) :=
  ef_call (args := fun a : Rl × Bx => [a.1.d]) (r, B) (ea_cons h ea_nil) ⟨hz, ok, hin⟩ (plD_imm _)
end
end K02

namespace K02
open PySem PySem.Spec L2 Pu Pr Pl
open Evl (Ex rLenS rMax2 rListS)
open PyProof.Rows (envOfC)
/-! own words of the walk -/
local macro_rules | `(tactic| walk_at "side") => `(tactic| first
  | rfl | exact at_m1 | exact at_m1' | exact at_m1'' | exact at_m2 | exact at_m2' | exact at_m3 | exact at0 | exact at1 | exact at2 | exact at3 | exact at4 | assumption | decide | omega | exact ⟨by decide, by decide⟩ | exact ⟨by omega, by omega⟩ | exact Or.inr ⟨by omega, by omega⟩ | exact Or.inl ⟨by omega, by omega⟩ | exact Or.inr ⟨by decide, by decide⟩)
local macro_rules | `(tactic| walk_at "ec") => `(tactic| fail)
local macro_rules | `(tactic| walk_at "fc") => `(tactic| fail)
local macro_rules | `(tactic| walk_at "tab") => `(tactic| assumption)
local macro_rules | `(tactic| walk_at "shape") => `(tactic| first | rfl | assumption)
local macro_rules | `(tactic| walk_at "e") => `(tactic| first
  | exact ev_int | exact ev_str | exact ev_bl | exact ev_non | exact ev_var rfl
  | (apply ev_ixO; (rfl); (walk_at "x"); (walk_at "side"))
  | (apply ev_ixT; (walk_at "e"); (walk_at "x"); (walk_at "side"))
  | (apply ev_ixL; (walk_at "e"); (walk_at "x"); (walk_at "side"))
  | (apply ev_I0; (walk_at "x"); (walk_at "x"); (rfl))
  | (apply ev_I0b; (walk_at "x"); (walk_at "x"); (rfl))
  | (apply ev_I; (walk_at "x"); (walk_at "x"); (rfl); (walk_at "side"))
  | (apply ev_neg; (walk_at "x"); (rfl))
  | (apply ev_eqI; (walk_at "x"); (walk_at "x"))
  | (apply ev_eqS; (walk_at "x"); (walk_at "x"))
  | (apply ev_eqB; (walk_at "x"); (walk_at "x"))
  | (apply ev_neI; (walk_at "x"); (walk_at "x"))
  | (apply ev_neS; (walk_at "x"); (walk_at "x"))
  | (apply ev_eqD; (walk_at "x"); (walk_at "x"); (walk_at "shape"); (walk_at "shape"))
  | (apply ev_neD; (walk_at "x"); (walk_at "x"); (walk_at "shape"); (walk_at "shape"))
  | (apply ev_andV; (walk_at "x"); (intro _; walk_at "x"))
  | (apply ev_orV; (walk_at "x"); (intro _; walk_at "x"))
  | (apply ev_notV; (walk_at "x"))
  | (apply ev_tup; (walk_at "s"); (exact Nat.le_of_ble_eq_true rfl))
  | (apply ev_slTb; (walk_at "e"); (walk_at "o"); (walk_at "o"); (rfl))
  | (apply ev_lenL; (walk_at "x"))
  | (apply ev_lenT; (walk_at "x"))
  | (apply ev_min2; (walk_at "x"); (walk_at "x"))
  | (apply ev_max2; (walk_at "x"); (walk_at "x"))
  | (apply ev_isi; (walk_at "x"); (first | exact kb_int_int | exact kb_int_bool | exact kb_int_str | exact kb_int_list | exact kb_int_tuple | exact kb_bool_int | exact kb_bool_bool | exact kb_bool_str | exact kb_bool_list | exact kb_bool_tuple | exact kb_str_int | exact kb_str_bool | exact kb_str_str | exact kb_str_list | exact kb_str_tuple | exact kb_list_int | exact kb_list_bool | exact kb_list_str | exact kb_list_list | exact kb_list_tuple | exact kb_tuple_int | exact kb_tuple_bool | exact kb_tuple_str | exact kb_tuple_list | exact kb_tuple_tuple | exact kb_NoneType_int | exact kb_NoneType_bool | exact kb_NoneType_str | exact kb_NoneType_list | exact kb_NoneType_tuple))
  | (apply ev_intB; (walk_at "x"))
  | (apply ev_ixD; (walk_at "x"); (walk_at "tab"))
  | (apply ev_isN; (walk_at "x"))
  | (apply ev_tupO; (rfl))
  | (apply ev_tupL; (walk_at "e"))
  | walk_at "ec"
  | (apply ev_fresh; (walk_at "f")))
local macro_rules | `(tactic| walk_at "f") => `(tactic| first
  | (apply ef_lst; (walk_at "s"); (exact Nat.le_of_ble_eq_true rfl))
  | (apply ef_catA; (walk_at "e"); (walk_at "e"); (walk_at "side"))
  | (apply ef_slO; (rfl); (walk_at "o"); (walk_at "o"))
  | (apply ef_slL; (walk_at "e"); (walk_at "o"); (walk_at "o"))
  | (apply ef_listT; (walk_at "e"))
  | (apply ef_listL; (walk_at "e"))
  | walk_at "fc")
local macro_rules | `(tactic| walk_at "x") => `(tactic| first
  | exact ev_varO rfl
  | (apply ev_weak; (walk_at "e")))
local macro_rules | `(tactic| walk_at "o") => `(tactic| first
  | exact eo_none
  | (apply eo_some; (walk_at "x")))
local macro_rules | `(tactic| walk_at "a") => `(tactic| first
  | exact ea_nil
  | (apply ea_cons; (walk_at "x"); (walk_at "a")))
local macro_rules | `(tactic| walk_at "s") => `(tactic| first
  | exact es_nil
  | (apply es_cons; (walk_at "e"); (walk_at "s")))
local macro_rules | `(tactic| walk_at "b") => `(tactic| first
  | exact eb_yes
  | (apply eb_test; (walk_at "x"))
  | (apply eb_B; (walk_at "x"))
  | (apply eb_truB; (walk_at "x"))
  | (apply eb_truL; (walk_at "x"))
  | (apply eb_truT; (walk_at "x"))
  | (apply eb_truI; (walk_at "x"))
  | (apply eb_not; (walk_at "b"))
  | (apply eb_and; (walk_at "b"); (intro _; walk_at "b"))
  | (apply eb_or; (walk_at "b"); (intro _; walk_at "b")))
section
variable {P : Program} {w : World} {K : PySem.W.Frag} {mg : Str → Option Value} {base : Heap}
/-! ### the law's helpers -/
abbrev sp__law_whole (K : PySem.W.Frag) : Sp := spF (α := Int) K (fun i => [.int i]) (fun _ => True) (fun _ => .bool true)
theorem ok_whole (T : Top K mg w) : FnOk P w K mg base CX0 1 T.a__law_whole T.d__law_whole ["_law_found"] (sp__law_whole K) := by
  refine fn_val T.F__law_whole sc__law_whole (fun _ => rfl) fun cdv A outer s H E hr => ⟨_, B__law_whole T hr, fun i hp => ?_⟩
  refine w_ret (d := .bool (true && !false)) (ev_weak (ev_andV ?_ fun _ => ?_)) (.inl rfl)
  · walk_at "x"
  · refine ev_weak (ev_notV ?_)
    walk_at "x"
theorem ec_whole {es : Es} {ta : TE} {i : Int} {E : XK} (h : EvX K ta es (.int i)) : EvE K (tCall (sp__law_whole K) [] E (tCons ta tNil)) es (.bool true) :=
  ev_call (args := fun i : Int => [PyData.int i]) i (ea_cons h ea_nil) True.intro rfl
abbrev sp__law_cell_at (K : PySem.W.Frag) : Sp := spF (α := List Int × Nat) K (fun a => [.list (a.1.map PyData.int), .int (a.2 : Nat)]) (fun _ => True) (fun a => .int (cell a.1 a.2))
theorem ok_cell (T : Top K mg w) : FnOk P w K mg base CX0 1 T.a__law_cell_at T.d__law_cell_at ["_law_script", "_law_k"] (sp__law_cell_at K) := by
  refine fn_val T.F__law_cell_at sc__law_cell_at (fun _ => rfl) fun cdv A outer s H E hr => ⟨_, B__law_cell_at T hr, fun a hp => ?_⟩
  obtain ⟨ns, n⟩ := a
  show Ws K _ [.dat (.list (ns.map PyData.int)), .dat (.int (n : Nat))] _
  apply w_seq
  apply w_if
  · walk_at "b"
  · intro hb
    rw [List.length_map] at hb
    have h1 := of_decide_eq_true hb
    have h2 : n < ns.length := by omega
    have h3 := ints_at h2
    apply w_ret
    · walk_at "x"
    · exact .inl rfl
  · intro hb
    rw [List.length_map] at hb
    have h1 := of_decide_eq_false hb
    have h2 : ns.length ≤ n := by omega
    apply w_next
    apply w_ret
    · walk_at "x"
    · left
      show Rt.val (.int 0) = Rt.val (.int (cell ns n))
      unfold cell
      rw [List.getD_eq_getElem?_getD, List.getElem?_eq_none h2]
      rfl
theorem ec_cell {es : Es} {ta tb : TE} {ns : List Int} {i : Int} {E : XK} (h : EvX K ta es (.list (ns.map PyData.int))) (h2 : EvX K tb es (.int i)) (h0 : 0 ≤ i) : EvE K (tCall (sp__law_cell_at K) [] E (tCons ta (tCons tb tNil))) es (.int (cell ns i.toNat)) :=
  ev_call (args := fun a : List Int × Nat => [PyData.list (a.1.map PyData.int), PyData.int (a.2 : Nat)]) (ns, i.toNat) (ea_cons h (ea_cons (ev_isX h2 (by rw [Int.toNat_of_nonneg h0])) ea_nil)) True.intro rfl
/-- so many rows, so many columns -/
structure Hw where
  h : Int
  w : Int
structure Hw.Ok (z : Hw) : Prop where
  h : 0 < z.h
  w : 0 < z.w
def refBy (c : Int) (z : Hw) : Rf := ⟨c % z.h, c / 12 % z.w, decide (c / 144 % 2 = 1), decide (c / 288 % 2 = 1)⟩
abbrev sp__law_ref_by (K : PySem.W.Frag) : Sp := spF (α := Int × Hw) K (fun a => [.int a.1, .int a.2.h, .int a.2.w]) (fun a => a.2.Ok) (fun a => (refBy a.1 a.2).d)
theorem ok_ref (T : Top K mg w) : FnOk P w K mg base CX0 1 T.a__law_ref_by T.d__law_ref_by ["_law_cell", "_law_high", "_law_wide"] (sp__law_ref_by K) := by
  refine fn_val T.F__law_ref_by sc__law_ref_by (fun _ => rfl) fun cdv A outer s H E hr => ⟨_, B__law_ref_by T hr, fun a hp => ?_⟩
  obtain ⟨c, z⟩ := a
  obtain ⟨hh, hw⟩ : z.Ok := hp
  show Ws K _ [.dat (.int c), .dat (.int z.h), .dat (.int z.w)] _
  apply w_ret
  · walk_at "x"
  · exact .inl rfl
theorem ec_ref {es : Es} {ta tb tc : TE} {c : Int} {z : Hw} {E : XK} (h : EvX K ta es (.int c)) (h2 : EvX K tb es (.int z.h)) (h3 : EvX K tc es (.int z.w)) (ok : z.Ok) : EvE K (tCall (sp__law_ref_by K) [] E (tCons ta (tCons tb (tCons tc tNil)))) es (refBy c z).d :=
  ev_call (args := fun a : Int × Hw => [PyData.int a.1, .int a.2.h, .int a.2.w]) (c, z) (ea_cons h (ea_cons h2 (ea_cons h3 ea_nil))) ok rfl
def leafBy (c : Int) (z : Hw) : Rl :=
  if c % 6 = 0 then .num (c / 6 % (10 : Int) ^ (12 : Int).toNat)
  else if c % 6 = 1 then .sum (refBy (c / 6) z) (refBy (c / 6 * 48271 % 1000003) z)
  else if c % 6 = 2 then .most (refBy (c / 6) z) (refBy (c / 6 * 69621 % 1000033) z)
  else .cell (refBy (c / 6) z)
local macro_rules | `(tactic| walk_at "ec") => `(tactic| first
  | (apply ec_ref; (walk_at "x"); (walk_at "x"); (walk_at "x"); (assumption))
  | (apply ec_cell; (walk_at "x"); (walk_at "x"); (decide)))
abbrev sp__law_leaf_by (K : PySem.W.Frag) : Sp := spF (α := Int × Hw) K (fun a => [.int a.1, .int a.2.h, .int a.2.w]) (fun a => a.2.Ok) (fun a => (leafBy a.1 a.2).d)
theorem ok_leaf (T : Top K mg w) : FnOk P w K mg base CX0 2 T.a__law_leaf_by T.d__law_leaf_by ["_law_cell", "_law_high", "_law_wide"] (sp__law_leaf_by K) := by
  refine fn_val T.F__law_leaf_by sc__law_leaf_by (fun _ => rfl) fun cdv A outer s H E hr => ⟨_, B__law_leaf_by T (ok_ref T) (by decide) hr, fun a hp => ?_⟩
  obtain ⟨c, z⟩ := a
  have ok : z.Ok := hp
  show Ws K _ [.dat (.int c), .dat (.int z.h), .dat (.int z.w), .no, .no] _
  have h12 : 0 < (10 : Int) ^ (12 : Int).toNat := by decide
  apply w_seq
  apply w_asg
  · walk_at "e"
  apply w_seq
  apply w_asg
  · walk_at "e"
  apply w_seq
  apply w_if
  · walk_at "b"
  · intro h0
    have h0 := of_decide_eq_true h0
    apply w_ret
    · walk_at "x"
    · left
      show _ = Rt.val (leafBy c z).d
      unfold leafBy
      rw [if_pos h0]
      rfl
  intro h0
  have h0 := of_decide_eq_false h0
  apply w_next
  apply w_seq
  apply w_if
  · walk_at "b"
  · intro h1
    have h1 := of_decide_eq_true h1
    apply w_ret
    · walk_at "x"
    · left
      show _ = Rt.val (leafBy c z).d
      unfold leafBy
      rw [if_neg h0, if_pos h1]
      rfl
  intro h1
  have h1 := of_decide_eq_false h1
  apply w_next
  apply w_seq
  apply w_if
  · walk_at "b"
  · intro h2
    have h2 := of_decide_eq_true h2
    apply w_ret
    · walk_at "x"
    · left
      show _ = Rt.val (leafBy c z).d
      unfold leafBy
      rw [if_neg h0, if_neg h1, if_pos h2]
      rfl
  intro h2
  have h2 := of_decide_eq_false h2
  apply w_next
  apply w_ret
  · walk_at "x"
  · left
    show _ = Rt.val (leafBy c z).d
    unfold leafBy
    rw [if_neg h0, if_neg h1, if_neg h2]
    rfl
theorem ec_leaf {es : Es} {ta tb tc : TE} {c : Int} {z : Hw} {E : XK} (h : EvX K ta es (.int c)) (h2 : EvX K tb es (.int z.h)) (h3 : EvX K tc es (.int z.w)) (ok : z.Ok) : EvE K (tCall (sp__law_leaf_by K) [] E (tCons ta (tCons tb (tCons tc tNil)))) es (leafBy c z).d :=
  ev_call (args := fun a : Int × Hw => [PyData.int a.1, .int a.2.h, .int a.2.w]) (c, z) (ea_cons h (ea_cons h2 (ea_cons h3 ea_nil))) ok (Rl.imm_d _)
theorem leaf_size (c : Int) (z : Hw) : (leafBy c z).size = 1 := by
  unfold leafBy
  split
  · rfl
  split
  · rfl
  split <;> rfl
/-- the box at the corner -/
def Hw.bx (z : Hw) : Bx := ⟨z.h.toNat, z.w.toNat, 0, 0⟩
theorem ref_in {c : Int} {z : Hw} (ok : z.Ok) : z.bx.has (refBy c z).r (refBy c z).c := by
  obtain ⟨h1, h2⟩ := ok
  have a1 := Int.emod_nonneg c (show z.h ≠ 0 by omega)
  have a2 := Int.emod_lt_of_pos c h1
  have a3 := Int.emod_nonneg (c / 12) (show z.w ≠ 0 by omega)
  have a4 := Int.emod_lt_of_pos (c / 12) h2
  show 0 ≤ c % z.h ∧ c % z.h < 0 + (z.h.toNat : Int) ∧ 0 ≤ c / 12 % z.w ∧ c / 12 % z.w < 0 + (z.w.toNat : Int)
  omega
theorem leaf_in {c : Int} {z : Hw} (ok : z.Ok) : inb z.bx (leafBy c z) := by
  unfold leafBy
  split
  · exact True.intro
  split
  · exact ⟨ref_in ok, ref_in ok⟩
  split
  · exact ⟨ref_in ok, ref_in ok⟩
  · exact ref_in ok
/-! ### what stands directly within a rule -/
abbrev sp__law_inner (K : PySem.W.Frag) : Sp := spL (α := Rl) K (fun r => [r.d]) (fun _ => True) (fun r => r.inner.map Rl.d)
theorem eb_strs {es : Es} {ta tb : TE} {x : Str} {ss : List Str} {b : Bool} (h : EvX K ta es (.str x)) (h2 : EvX K tb es (.list (ss.map PyData.str))) (e : (ss.any fun y => y == x) = b) : EvB K (tTest (tOp (rIn K false) ta tb)) es b :=
  eb_is (eb_test (ev_weak (ev_inS h h2))) e
theorem eb_eqS {es : Es} {ta tb : TE} {x y : Str} {b : Bool} (h : EvX K ta es (.str x)) (h2 : EvX K tb es (.str y)) (e : decide (x = y) = b) : EvB K (tTest (tOp rEq ta tb)) es b :=
  eb_is (eb_test (ev_weak (ev_eqS h h2))) e
theorem ok_linner (T : Top K mg w) : FnOk P w K mg base CX0 1 T.a__law_inner T.d__law_inner ["_law_rule"] (sp__law_inner K) := by
  refine fn_lst T.F__law_inner sc__law_inner (fun _ => rfl) fun cdv A outer s H E hr => ⟨_, B__law_inner T hr, fun r hp => ?_⟩
  show Ws K _ [.dat r.d] _
  apply w_seq
  have lst : EvX K (tLst (tCons (tC (.str "add")) (tCons (tC (.str "sub")) (tCons (tC (.str "mul")) (tCons (tC (.str "pick")) tNil))))) [.dat r.d] (.list ((["add", "sub", "mul", "pick"] : List Str).map PyData.str)) :=
    ev_weak (ev_fresh (ef_lst (es_cons ev_str (es_cons ev_str (es_cons ev_str (es_cons ev_str es_nil)))) (Nat.le_of_ble_eq_true rfl)))
  cases r with
  | look a p q b =>
    refine w_if (b := true) (eb_eqS (ev_weak (ev_ixT (ev_var rfl) (ev_weak ev_int) at0)) (ev_weak ev_str) (by decide +kernel)) (fun _ => ?_) (fun h => nomatch h)
    apply w_retF
    · walk_at "f"
    · rfl
  | num n =>
    refine w_if (b := false) (eb_eqS (ev_weak (ev_ixT (ev_var rfl) (ev_weak ev_int) at0)) (ev_weak ev_str) (by decide +kernel)) (fun h => nomatch h) (fun _ => w_next (w_seq ?_))
    refine w_if (b := false) (eb_strs (ev_weak (ev_ixT (ev_var rfl) (ev_weak ev_int) at0)) lst (by decide +kernel)) (fun h => nomatch h) (fun _ => w_next ?_)
    exact w_retF (ef_lst es_nil (Nat.zero_le _)) rfl
  | cell n =>
    refine w_if (b := false) (eb_eqS (ev_weak (ev_ixT (ev_var rfl) (ev_weak ev_int) at0)) (ev_weak ev_str) (by decide +kernel)) (fun h => nomatch h) (fun _ => w_next (w_seq ?_))
    refine w_if (b := false) (eb_strs (ev_weak (ev_ixT (ev_var rfl) (ev_weak ev_int) at0)) lst (by decide +kernel)) (fun h => nomatch h) (fun _ => w_next ?_)
    exact w_retF (ef_lst es_nil (Nat.zero_le _)) rfl
  | sum n m =>
    refine w_if (b := false) (eb_eqS (ev_weak (ev_ixT (ev_var rfl) (ev_weak ev_int) at0)) (ev_weak ev_str) (by decide +kernel)) (fun h => nomatch h) (fun _ => w_next (w_seq ?_))
    refine w_if (b := false) (eb_strs (ev_weak (ev_ixT (ev_var rfl) (ev_weak ev_int) at0)) lst (by decide +kernel)) (fun h => nomatch h) (fun _ => w_next ?_)
    exact w_retF (ef_lst es_nil (Nat.zero_le _)) rfl
  | most n m =>
    refine w_if (b := false) (eb_eqS (ev_weak (ev_ixT (ev_var rfl) (ev_weak ev_int) at0)) (ev_weak ev_str) (by decide +kernel)) (fun h => nomatch h) (fun _ => w_next (w_seq ?_))
    refine w_if (b := false) (eb_strs (ev_weak (ev_ixT (ev_var rfl) (ev_weak ev_int) at0)) lst (by decide +kernel)) (fun h => nomatch h) (fun _ => w_next ?_)
    exact w_retF (ef_lst es_nil (Nat.zero_le _)) rfl
  | add a b =>
    refine w_if (b := false) (eb_eqS (ev_weak (ev_ixT (ev_var rfl) (ev_weak ev_int) at0)) (ev_weak ev_str) (by decide +kernel)) (fun h => nomatch h) (fun _ => w_next (w_seq ?_))
    refine w_if (b := true) (eb_strs (ev_weak (ev_ixT (ev_var rfl) (ev_weak ev_int) at0)) lst (by decide +kernel)) (fun _ => ?_) (fun h => nomatch h)
    apply w_retF
    · walk_at "f"
    · rfl
  | sub a b =>
    refine w_if (b := false) (eb_eqS (ev_weak (ev_ixT (ev_var rfl) (ev_weak ev_int) at0)) (ev_weak ev_str) (by decide +kernel)) (fun h => nomatch h) (fun _ => w_next (w_seq ?_))
    refine w_if (b := true) (eb_strs (ev_weak (ev_ixT (ev_var rfl) (ev_weak ev_int) at0)) lst (by decide +kernel)) (fun _ => ?_) (fun h => nomatch h)
    apply w_retF
    · walk_at "f"
    · rfl
  | mul a b =>
    refine w_if (b := false) (eb_eqS (ev_weak (ev_ixT (ev_var rfl) (ev_weak ev_int) at0)) (ev_weak ev_str) (by decide +kernel)) (fun h => nomatch h) (fun _ => w_next (w_seq ?_))
    refine w_if (b := true) (eb_strs (ev_weak (ev_ixT (ev_var rfl) (ev_weak ev_int) at0)) lst (by decide +kernel)) (fun _ => ?_) (fun h => nomatch h)
    apply w_retF
    · walk_at "f"
    · rfl
  | pick a b c =>
    refine w_if (b := false) (eb_eqS (ev_weak (ev_ixT (ev_var rfl) (ev_weak ev_int) at0)) (ev_weak ev_str) (by decide +kernel)) (fun h => nomatch h) (fun _ => w_next (w_seq ?_))
    refine w_if (b := true) (eb_strs (ev_weak (ev_ixT (ev_var rfl) (ev_weak ev_int) at0)) lst (by decide +kernel)) (fun _ => ?_) (fun h => nomatch h)
    apply w_retF
    · walk_at "f"
    · rfl
theorem fc_linner {es : Es} {ta : TE} {r : Rl} {E : XK} (h : EvX K ta es r.d) : EvF K (tCall (sp__law_inner K) [] E (tCons ta tNil)) es (r.inner.map Rl.d) :=
  ef_call (args := fun r : Rl => [r.d]) r (ea_cons h ea_nil) True.intro (Rl.imm_all _)
end
end K02

namespace K02
open PySem PySem.Spec L2 Pu Pr Pl
open Evl (Ex rLenS rMax2 rListS)
open PyProof.Rows (envOfC)
/-! own words of the walk -/
local macro_rules | `(tactic| walk_at "side") => `(tactic| first
  | rfl | exact at_m1 | exact at_m1' | exact at_m1'' | exact at_m2 | exact at_m2' | exact at_m3 | exact at0 | exact at1 | exact at2 | exact at3 | exact at4 | assumption | decide | omega | exact ⟨by decide, by decide⟩ | exact ⟨by omega, by omega⟩ | exact Or.inr ⟨by omega, by omega⟩ | exact Or.inl ⟨by omega, by omega⟩ | exact Or.inr ⟨by decide, by decide⟩)
local macro_rules | `(tactic| walk_at "ec") => `(tactic| fail)
local macro_rules | `(tactic| walk_at "fc") => `(tactic| fail)
local macro_rules | `(tactic| walk_at "tab") => `(tactic| assumption)
local macro_rules | `(tactic| walk_at "shape") => `(tactic| first | rfl | assumption)
local macro_rules | `(tactic| walk_at "e") => `(tactic| first
  | exact ev_int | exact ev_str | exact ev_bl | exact ev_non | exact ev_var rfl
  | (apply ev_ixO; (rfl); (walk_at "x"); (walk_at "side"))
  | (apply ev_ixT; (walk_at "e"); (walk_at "x"); (walk_at "side"))
  | (apply ev_ixL; (walk_at "e"); (walk_at "x"); (walk_at "side"))
  | (apply ev_I0; (walk_at "x"); (walk_at "x"); (rfl))
  | (apply ev_I0b; (walk_at "x"); (walk_at "x"); (rfl))
  | (apply ev_I; (walk_at "x"); (walk_at "x"); (rfl); (walk_at "side"))
  | (apply ev_neg; (walk_at "x"); (rfl))
  | (apply ev_eqI; (walk_at "x"); (walk_at "x"))
  | (apply ev_eqS; (walk_at "x"); (walk_at "x"))
  | (apply ev_eqB; (walk_at "x"); (walk_at "x"))
  | (apply ev_neI; (walk_at "x"); (walk_at "x"))
  | (apply ev_neS; (walk_at "x"); (walk_at "x"))
  | (apply ev_eqD; (walk_at "x"); (walk_at "x"); (walk_at "shape"); (walk_at "shape"))
  | (apply ev_neD; (walk_at "x"); (walk_at "x"); (walk_at "shape"); (walk_at "shape"))
  | (apply ev_andV; (walk_at "x"); (intro _; walk_at "x"))
  | (apply ev_orV; (walk_at "x"); (intro _; walk_at "x"))
  | (apply ev_notV; (walk_at "x"))
  | (apply ev_tup; (walk_at "s"); (exact Nat.le_of_ble_eq_true rfl))
  | (apply ev_slTb; (walk_at "e"); (walk_at "o"); (walk_at "o"); (rfl))
  | (apply ev_lenL; (walk_at "x"))
  | (apply ev_lenT; (walk_at "x"))
  | (apply ev_min2; (walk_at "x"); (walk_at "x"))
  | (apply ev_max2; (walk_at "x"); (walk_at "x"))
  | (apply ev_isi; (walk_at "x"); (first | exact kb_int_int | exact kb_int_bool | exact kb_int_str | exact kb_int_list | exact kb_int_tuple | exact kb_bool_int | exact kb_bool_bool | exact kb_bool_str | exact kb_bool_list | exact kb_bool_tuple | exact kb_str_int | exact kb_str_bool | exact kb_str_str | exact kb_str_list | exact kb_str_tuple | exact kb_list_int | exact kb_list_bool | exact kb_list_str | exact kb_list_list | exact kb_list_tuple | exact kb_tuple_int | exact kb_tuple_bool | exact kb_tuple_str | exact kb_tuple_list | exact kb_tuple_tuple | exact kb_NoneType_int | exact kb_NoneType_bool | exact kb_NoneType_str | exact kb_NoneType_list | exact kb_NoneType_tuple))
  | (apply ev_intB; (walk_at "x"))
  | (apply ev_ixD; (walk_at "x"); (walk_at "tab"))
  | (apply ev_isN; (walk_at "x"))
  | (apply ev_tupO; (rfl))
  | (apply ev_tupL; (walk_at "e"))
  | walk_at "ec"
  | (apply ev_fresh; (walk_at "f")))
local macro_rules | `(tactic| walk_at "f") => `(tactic| first
  | (apply ef_lst; (walk_at "s"); (exact Nat.le_of_ble_eq_true rfl))
  | (apply ef_catA; (walk_at "e"); (walk_at "e"); (walk_at "side"))
  | (apply ef_slO; (rfl); (walk_at "o"); (walk_at "o"))
  | (apply ef_slL; (walk_at "e"); (walk_at "o"); (walk_at "o"))
  | (apply ef_listT; (walk_at "e"))
  | (apply ef_listL; (walk_at "e"))
  | walk_at "fc")
local macro_rules | `(tactic| walk_at "x") => `(tactic| first
  | exact ev_varO rfl
  | (apply ev_weak; (walk_at "e")))
local macro_rules | `(tactic| walk_at "o") => `(tactic| first
  | exact eo_none
  | (apply eo_some; (walk_at "x")))
local macro_rules | `(tactic| walk_at "a") => `(tactic| first
  | exact ea_nil
  | (apply ea_cons; (walk_at "x"); (walk_at "a")))
local macro_rules | `(tactic| walk_at "s") => `(tactic| first
  | exact es_nil
  | (apply es_cons; (walk_at "e"); (walk_at "s")))
local macro_rules | `(tactic| walk_at "b") => `(tactic| first
  | exact eb_yes
  | (apply eb_test; (walk_at "x"))
  | (apply eb_B; (walk_at "x"))
  | (apply eb_truB; (walk_at "x"))
  | (apply eb_truL; (walk_at "x"))
  | (apply eb_truT; (walk_at "x"))
  | (apply eb_truI; (walk_at "x"))
  | (apply eb_not; (walk_at "b"))
  | (apply eb_and; (walk_at "b"); (intro _; walk_at "b"))
  | (apply eb_or; (walk_at "b"); (intro _; walk_at "b")))
local macro_rules | `(tactic| walk_at "ec") => `(tactic| first
  | (apply ec_leaf; (walk_at "x"); (walk_at "x"); (walk_at "x"); (assumption))
  | (apply ec_ref; (walk_at "x"); (walk_at "x"); (walk_at "x"); (assumption))
  | (apply ec_cell; (walk_at "x"); (walk_at "x"); (decide)))
section
variable {P : Program} {w : World} {K : PySem.W.Frag} {mg : Str → Option Value} {base : Heap}
/-! ### the stack -/
def op2 (k : Int) (a b : Rl) : Rl := if k = 0 then .add a b else if k = 1 then .sub a b else .mul a b
theorem op2_size (k : Int) (a b : Rl) : (op2 k a b).size = a.size + b.size + 1 := by
  unfold op2
  split
  · rfl
  split <;> rfl
theorem op2_inner (k : Int) (a b : Rl) : (op2 k a b).inner = [a, b] := by
  unfold op2
  split
  · rfl
  split <;> rfl
theorem op2_in {B : Bx} {k : Int} {a b : Rl} (h : inb B a) (h2 : inb B b) : inb B (op2 k a b) := by
  unfold op2
  split
  · exact ⟨h, h2⟩
  split <;> exact ⟨h, h2⟩
theorem op2_d {k : Int} (h0 : 0 ≤ k) (h3 : k < 3) (a b : Rl) : ∃ z, atI [PyData.str "add", .str "sub", .str "mul"] k = some (.str z) ∧ (op2 k a b).d = .tuple [.str z, a.d, b.d] := by
  have h : k = 0 ∨ k = 1 ∨ k = 2 := by omega
  rcases h with rfl | rfl | rfl
  · exact ⟨"add", rfl, rfl⟩
  · exact ⟨"sub", rfl, rfl⟩
  · exact ⟨"mul", rfl, rfl⟩
/-- what is made of the top ones: the rest, the new one -/
inductive Made (z : Hw) (c : Int) : List Rl → Option Rl → Prop where
  | op (s : List Rl) (a b : Rl) : c % 12 < 3 → Made z c (s ++ [a, b]) (some (op2 (c % 12) a b))
  | pick (s : List Rl) (x a b : Rl) : Made z c (s ++ [x, a, b]) (some (.pick x a b))
  | look (s : List Rl) (a b : Rl) : Made z c (s ++ [a, b]) (some (.look a (refBy (c / 12) z) (refBy (c / 12 * 48271 % 1000003) z) b))
  | no (s : List Rl) : Made z c s none
def optD : Option Rl → PyData
  | none => .none
  | some r => r.d
theorem optD_imm : ∀ o : Option Rl, imm (optD o) = true
  | none => rfl
  | some r => r.imm_d
theorem two_of {st : List Rl} (h : 1 < st.length) : ∃ s a b, st = s ++ [a, b] := by
  rcases List.eq_nil_or_concat st with rfl | ⟨s, b, rfl⟩
  · simp at h
  rcases List.eq_nil_or_concat s with rfl | ⟨s, a, rfl⟩
  · simp at h
  · exact ⟨s, a, b, by simp⟩
theorem three_of {st : List Rl} (h : 2 < st.length) : ∃ s x a b, st = s ++ [x, a, b] := by
  obtain ⟨s, a, b, rfl⟩ := two_of (st := st) (by omega)
  rcases List.eq_nil_or_concat s with rfl | ⟨s, x, rfl⟩
  · simp at h
  · exact ⟨s, x, a, b, by simp⟩
def mb (st : List Rl) (c : Int) (z : Hw) : Option Rl :=
  match st.reverse with
  | b :: a :: s =>
    if c % 12 < 3 then some (op2 (c % 12) a b)
    else if c % 12 = 4 then some (.look a (refBy (c / 12) z) (refBy (c / 12 * 48271 % 1000003) z) b)
    else match s with
      | x :: _ => if c % 12 = 3 then some (.pick x a b) else none
      | [] => none
  | _ => none
theorem mb_two (s : List Rl) (a b : Rl) (c : Int) (z : Hw) (h : c % 12 < 3) : mb (s ++ [a, b]) c z = some (op2 (c % 12) a b) := by
  unfold mb
  simp [h]
theorem mb_look (s : List Rl) (a b : Rl) (c : Int) (z : Hw) (h : c % 12 = 4) : mb (s ++ [a, b]) c z = some (.look a (refBy (c / 12) z) (refBy (c / 12 * 48271 % 1000003) z) b) := by
  unfold mb
  simp [h]
theorem mb_pick (s : List Rl) (x a b : Rl) (c : Int) (z : Hw) (h : c % 12 = 3) : mb (s ++ [x, a, b]) c z = some (.pick x a b) := by
  unfold mb
  simp [h]
theorem mb_no {st : List Rl} {c : Int} {z : Hw} (h1 : ¬ (c % 12 < 3 ∧ 1 < st.length)) (h2 : ¬ (c % 12 = 3 ∧ 2 < st.length)) (h3 : ¬ (c % 12 = 4 ∧ 1 < st.length)) : mb st c z = none := by
  by_cases l : 1 < st.length
  · obtain ⟨s, a, b, rfl⟩ := two_of l
    have n1 : ¬ c % 12 < 3 := fun h => h1 ⟨h, l⟩
    have n3 : ¬ c % 12 = 4 := fun h => h3 ⟨h, l⟩
    unfold mb
    simp [n1, n3]
    rcases List.eq_nil_or_concat s with rfl | ⟨s, x, rfl⟩
    · rfl
    · have n2 : ¬ c % 12 = 3 := fun h => h2 ⟨h, by simp⟩
      simp [n2]
  · unfold mb
    match st, l with
    | [], _ => rfl
    | [x], _ => rfl
    | a :: b :: s, l => simp at l
theorem mb_made (st : List Rl) (c : Int) (z : Hw) : Made z c st (mb st c z) := by
  by_cases h1 : c % 12 < 3 ∧ 1 < st.length
  · obtain ⟨s, a, b, rfl⟩ := two_of h1.2
    rw [mb_two s a b c z h1.1]
    exact .op s a b h1.1
  by_cases h2 : c % 12 = 3 ∧ 2 < st.length
  · obtain ⟨s, x, a, b, rfl⟩ := three_of h2.2
    rw [mb_pick s x a b c z h2.1]
    exact .pick s x a b
  by_cases h3 : c % 12 = 4 ∧ 1 < st.length
  · obtain ⟨s, a, b, rfl⟩ := two_of h3.2
    rw [mb_look s a b c z h3.1]
    exact .look s a b
  rw [mb_no h1 h2 h3]
  exact .no st
abbrev sp__law_made_by (K : PySem.W.Frag) : Sp := spF (α := List Rl × Int × Hw) K (fun a => [.list (a.1.map Rl.d), .int a.2.1, .int a.2.2.h, .int a.2.2.w]) (fun a => a.2.2.Ok) (fun a => optD (mb a.1 a.2.1 a.2.2))
theorem ok_made (T : Top K mg w) : FnOk P w K mg base CX0 2 T.a__law_made_by T.d__law_made_by ["_law_stack", "_law_cell", "_law_high", "_law_wide"] (sp__law_made_by K) := by
  refine fn_val T.F__law_made_by sc__law_made_by (fun _ => rfl) fun cdv A outer s H E hr => ⟨_, B__law_made_by T (ok_ref T) (by decide) hr, fun a hp => ?_⟩
  obtain ⟨st, c, z⟩ := a
  have ok : z.Ok := hp
  have hl : ((st.map Rl.d).length : Int) = st.length := by rw [List.length_map]
  show Ws K _ [.dat (.list (st.map Rl.d)), .dat (.int c), .dat (.int z.h), .dat (.int z.w), .no, .no] _
  apply w_seq
  apply w_asg
  · walk_at "e"
  apply w_seq
  apply w_if
  · walk_at "b"
  · intro hb
    obtain ⟨h1, h2⟩ := Bool.and_eq_true_iff.mp hb
    have h1 := of_decide_eq_true h1
    have h2 := of_decide_eq_true h2
    obtain ⟨s, a, b, rfl⟩ := two_of (st := st) (by omega)
    have m : (s ++ [a, b]).map Rl.d = s.map Rl.d ++ [a.d, b.d] := List.map_append
    rw [m]
    obtain ⟨y, hz1, hz2⟩ := op2_d (k := c % 12) (by omega) h1 a b
    refine w_ret (d := .tuple [.str y, a.d, b.d]) ?_ ?_
    · walk_at "x"
    · left
      show _ = Rt.val (optD (mb (s ++ [a, b]) c z))
      rw [mb_two s a b c z h1, ← hz2]
      rfl
  intro hb
  have n1 : ¬ (c % 12 < 3 ∧ 1 < st.length) := fun ⟨h1, h2⟩ => by
    rw [decide_eq_true h1, decide_eq_true (show (1 : Int) < ((st.map Rl.d).length : Int) by omega)] at hb
    cases hb
  apply w_next
  apply w_seq
  apply w_if
  · walk_at "b"
  · intro hb
    obtain ⟨h1, h2⟩ := Bool.and_eq_true_iff.mp hb
    have h1 := of_decide_eq_true h1
    have h2 := of_decide_eq_true h2
    obtain ⟨s, x, a, b, rfl⟩ := three_of (st := st) (by omega)
    have m : (s ++ [x, a, b]).map Rl.d = s.map Rl.d ++ [x.d, a.d, b.d] := List.map_append
    rw [m]
    refine w_ret (d := .tuple [.str "pick", x.d, a.d, b.d]) ?_ ?_
    · walk_at "x"
    · left
      show _ = Rt.val (optD (mb (s ++ [x, a, b]) c z))
      rw [mb_pick s x a b c z h1]
      rfl
  intro hb
  have n2 : ¬ (c % 12 = 3 ∧ 2 < st.length) := fun ⟨h1, h2⟩ => by
    rw [decide_eq_true h1, decide_eq_true (show (2 : Int) < ((st.map Rl.d).length : Int) by omega)] at hb
    cases hb
  apply w_next
  apply w_seq
  apply w_if
  · walk_at "b"
  · intro hb
    obtain ⟨h1, h2⟩ := Bool.and_eq_true_iff.mp hb
    have h1 := of_decide_eq_true h1
    have h2 := of_decide_eq_true h2
    obtain ⟨s, a, b, rfl⟩ := two_of (st := st) (by omega)
    have m : (s ++ [a, b]).map Rl.d = s.map Rl.d ++ [a.d, b.d] := List.map_append
    rw [m]
    apply w_seq
    apply w_asg
    · walk_at "e"
    refine w_ret (d := .tuple [.str "look", a.d, (refBy (c / 12) z).d, (refBy (c / 12 * 48271 % 1000003) z).d, b.d]) ?_ ?_
    · walk_at "x"
    · left
      show _ = Rt.val (optD (mb (s ++ [a, b]) c z))
      rw [mb_look s a b c z h1]
      rfl
  intro hb
  have n3 : ¬ (c % 12 = 4 ∧ 1 < st.length) := fun ⟨h1, h2⟩ => by
    rw [decide_eq_true h1, decide_eq_true (show (1 : Int) < ((st.map Rl.d).length : Int) by omega)] at hb
    cases hb
  apply w_next
  refine w_ret (d := .none) (ev_weak ev_non) ?_
  left
  show _ = Rt.val (optD (mb st c z))
  rw [mb_no n1 n2 n3]
  rfl
theorem ec_made {es : Es} {t1 t2 t3 t4 : TE} {st : List Rl} {c : Int} {z : Hw} {E : XK} (h1 : EvX K t1 es (.list (st.map Rl.d))) (h2 : EvX K t2 es (.int c)) (h3 : EvX K t3 es (.int z.h)) (h4 : EvX K t4 es (.int z.w)) (ok : z.Ok) :
    EvE K (tCall (sp__law_made_by K) [] E (tCons t1 (tCons t2 (tCons t3 (tCons t4 tNil))))) es (optD (mb st c z)) :=
  ev_call (args := fun a : List Rl × Int × Hw => [PyData.list (a.1.map Rl.d), .int a.2.1, .int a.2.2.h, .int a.2.2.w]) (st, c, z) (ea_cons h1 (ea_cons h2 (ea_cons h3 (ea_cons h4 ea_nil)))) ok (optD_imm _)
/-! ### the tree -/
def tot (st : List Rl) : Nat := (st.map Rl.size).sum
theorem tot_app (s r : List Rl) : tot (s ++ r) = tot s + tot r := by
  unfold tot
  rw [List.map_append, List.sum_append]
def pushed (z : Hw) (st : List Rl) (c : Int) : List Rl := match mb st c z with
  | none => st ++ [leafBy (c / 12) z]
  | some r => st.take (st.length - r.inner.length) ++ [r]
theorem pushed_ok {z : Hw} (ok : z.Ok) {st : List Rl} (c : Int) (hi : ∀ r ∈ st, inb z.bx r) : tot (pushed z st c) ≤ tot st + 1 ∧ pushed z st c ≠ [] ∧ ∀ r ∈ pushed z st c, inb z.bx r := by
  have back : ∀ (s t : List Rl), (s ++ t).take ((s ++ t).length - t.length) = s := fun s t => by
    rw [List.length_append, Nat.add_sub_cancel, List.take_left']
    rfl
  have hm := mb_made st c z
  unfold pushed
  generalize mb st c z = o at hm ⊢
  cases hm with
  | op s a b h =>
    dsimp only
    rw [op2_inner, back s [a, b], tot_app, tot_app]
    refine ⟨?_, by simp, ?_⟩
    · simp [tot, op2_size]
      omega
    · rw [List.forall_mem_append] at hi ⊢
      refine ⟨hi.1, ?_⟩
      rw [List.forall_mem_singleton]
      exact op2_in (hi.2 a (by simp)) (hi.2 b (by simp))
  | pick s x a b =>
    dsimp only
    rw [show (Rl.pick x a b).inner = [x, a, b] from rfl, back s [x, a, b], tot_app, tot_app]
    refine ⟨?_, by simp, ?_⟩
    · simp [tot, Rl.size]
      omega
    · rw [List.forall_mem_append] at hi ⊢
      refine ⟨hi.1, ?_⟩
      rw [List.forall_mem_singleton]
      exact ⟨hi.2 x (by simp), hi.2 a (by simp), hi.2 b (by simp)⟩
  | look s a b =>
    dsimp only
    rw [show (Rl.look a (refBy (c / 12) z) (refBy (c / 12 * 48271 % 1000003) z) b).inner = [a, b] from rfl, back s [a, b], tot_app, tot_app]
    refine ⟨?_, by simp, ?_⟩
    · simp [tot, Rl.size]
      omega
    · rw [List.forall_mem_append] at hi ⊢
      refine ⟨hi.1, ?_⟩
      rw [List.forall_mem_singleton]
      exact ⟨hi.2 a (by simp), ref_in ok, ref_in ok, hi.2 b (by simp)⟩
  | no =>
    dsimp only
    rw [tot_app]
    refine ⟨?_, by simp, ?_⟩
    · simp [tot, leaf_size]
    · rw [List.forall_mem_append]
      refine ⟨hi, ?_⟩
      rw [List.forall_mem_singleton]
      exact leaf_in ok
def treeSt (z : Hw) (cs : List Int) : List Rl := cs.foldl (pushed z) [.num 7]
theorem treeSt_ok {z : Hw} (ok : z.Ok) (cs : List Int) : tot (treeSt z cs) ≤ cs.length + 1 ∧ treeSt z cs ≠ [] ∧ ∀ r ∈ treeSt z cs, inb z.bx r := by
  have gen : ∀ (cs : List Int) (st : List Rl), st ≠ [] → (∀ r ∈ st, inb z.bx r) → tot (cs.foldl (pushed z) st) ≤ cs.length + tot st ∧ cs.foldl (pushed z) st ≠ [] ∧ ∀ r ∈ cs.foldl (pushed z) st, inb z.bx r := by
    intro cs
    induction cs with
    | nil => exact fun st h1 h2 => ⟨by simp, h1, h2⟩
    | cons c cs ih =>
      intro st h1 h2
      obtain ⟨p1, p2, p3⟩ := pushed_ok ok c h2
      obtain ⟨q1, q2, q3⟩ := ih _ p2 p3
      refine ⟨?_, q2, q3⟩
      rw [List.length_cons]
      show tot (cs.foldl (pushed z) (pushed z st c)) ≤ _
      omega
  obtain ⟨h1, h2, h3⟩ := gen cs [.num 7] (by simp) (by
    intro r hr
    rw [List.mem_singleton.mp hr]
    exact True.intro)
  exact ⟨h1, h2, h3⟩
def tree (z : Hw) (cs : List Int) : Rl := (treeSt z cs).getLastD (.num 7)
theorem tree_at (z : Hw) (cs : List Int) (ok : z.Ok) : atI ((treeSt z cs).map Rl.d) (-1) = some (tree z cs).d := by
  obtain ⟨_, h, _⟩ := treeSt_ok ok cs
  unfold tree
  rcases List.eq_nil_or_concat (treeSt z cs) with e | ⟨s, r, e⟩
  · exact absurd e h
  · rw [e, List.concat_eq_append, List.map_append]
    show atI (s.map Rl.d ++ [r.d]) (-1) = _
    rw [at_m1]
    simp
theorem tree_ok {z : Hw} (ok : z.Ok) (cs : List Int) : (tree z cs).size ≤ cs.length + 1 ∧ inb z.bx (tree z cs) := by
  obtain ⟨h1, h, h3⟩ := treeSt_ok ok cs
  unfold tree
  rcases List.eq_nil_or_concat (treeSt z cs) with e | ⟨s, r, e⟩
  · exact absurd e h
  · rw [e, List.concat_eq_append] at h1 h3 ⊢
    have el : (s ++ [r]).getLastD (.num 7) = r := by simp
    rw [el]
    rw [tot_app] at h1
    have : tot [r] = r.size := by simp [tot]
    exact ⟨by omega, h3 r (by simp)⟩
abbrev sp__law_tree_by (K : PySem.W.Frag) : Sp := spF (α := List Int × Hw) K (fun a => [.list (a.1.map PyData.int), .int a.2.h, .int a.2.w]) (fun a => a.2.Ok ∧ a.1.length ≤ 1000) (fun a => (tree a.2 a.1).d)
theorem cut_at {ds : List PyData} {n : Nat} : cutD ds none (some (n : Int)) = ds.take n := by
  unfold cutD
  rw [HT.sIx_none, HT.sIx_nat, List.drop_zero, Nat.sub_zero]
  by_cases h : n ≤ ds.length
  · rw [show min n ds.length = n by omega]
  · rw [show min n ds.length = ds.length by omega, List.take_of_length_le (Nat.le_refl _), List.take_of_length_le (by omega)]
theorem ok_tree (T : Top K mg w) : FnOk P w K mg base CX0 3 T.a__law_tree_by T.d__law_tree_by ["_law_cells", "_law_high", "_law_wide"] (sp__law_tree_by K) := by
  refine fn_val T.F__law_tree_by sc__law_tree_by (fun _ => rfl) fun cdv A outer s H E hr => ⟨_, B__law_tree_by T (ok_linner T) (by decide) (ok_leaf T) (by decide) (ok_made T) (by decide) hr, fun a hp => ?_⟩
  obtain ⟨cs, z⟩ := a
  obtain ⟨ok, hc⟩ : z.Ok ∧ cs.length ≤ 1000 := hp
  show Ws K _ [.dat (.list (cs.map PyData.int)), .dat (.int z.h), .dat (.int z.w), .no, .no, .no] _
  apply w_seq
  refine w_asgF (ds := [(Rl.num 7).d]) ?_ ?_
  · show EvF K _ _ [.tuple [.str "num", .int 7]]
    walk_at "f"
  apply w_seq
  refine w_forN (ei_list (ev_var rfl)) (fun i e => ∃ x y, e = [.dat (.list (cs.map PyData.int)), .dat (.int z.h), .dat (.int z.w), .own ((treeSt z (cs.take i)).map Rl.d), x, y]) ⟨_, _, rfl⟩ ?_ ?_
  · rintro i d e hd ⟨x, y, rfl⟩
    rw [List.getElem?_map] at hd
    obtain ⟨c, hci, rfl⟩ := Option.map_eq_some_iff.mp hd
    have step : treeSt z (cs.take (i + 1)) = pushed z (treeSt z (cs.take i)) c := by
      unfold treeSt
      rw [List.take_add_one, hci, List.foldl_append]
      rfl
    have few : (treeSt z (cs.take i)).length ≤ 1001 := by
      have h1 := (treeSt_ok ok (cs.take i)).1
      rw [List.length_take] at h1
      have := Rl.len_le (treeSt z (cs.take i))
      unfold tot at h1
      omega
    rw [step]
    generalize treeSt z (cs.take i) = st at few
    apply w_seq
    refine w_asg (ec_made (st := st) (c := c) (z := z) (ev_varO rfl) (ev_weak (ev_var rfl)) (ev_weak (ev_var rfl)) (ev_weak (ev_var rfl)) ok) ?_
    have pe : ∀ o, mb st c z = o → pushed z st c = (match o with | none => st ++ [leafBy (c / 12) z] | some r => st.take (st.length - r.inner.length) ++ [r]) := fun o h => by
      unfold pushed
      rw [h]
    generalize hm : mb st c z = o
    have pe := pe o hm
    cases o with
    | none =>
      refine w_if (b := true) (eb_test (ev_weak (ev_isN (d := .none) (ev_weak (ev_var rfl))))) (fun _ => ?_) (fun h => nomatch h)
      refine w_append (i := 3) rfl (d := (leafBy (c / 12) z).d) ?_ (by rw [List.length_map]; omega) ⟨.dat (.int c), .dat .none, ?_⟩
      · walk_at "e"
      · rw [pe, List.map_append]
        rfl
    | some r =>
      have nn : isNon r.d = false := by cases r <;> rfl
      refine w_if (b := false) (eb_is (eb_test (ev_weak (ev_isN (d := r.d) (ev_weak (ev_var rfl))))) nn) (fun h => nomatch h) (fun _ => ?_)
      apply w_seq
      have il : r.inner.length ≤ st.length := by
        have := mb_made st c z
        rw [hm] at this
        cases this with
        | op s a b h => rw [op2_inner]; simp
        | pick s x a b => simp [Rl.inner]
        | look s a b => simp [Rl.inner]
      refine w_asgF (ef_slO (k := 3) (lo := none) (hi := some ((st.length - r.inner.length : Nat) : Int)) rfl eo_none (eo_some (ev_isX (ev_weak (ev_I0 (ev_weak (ev_lenL (ev_varO rfl))) (ev_weak (ev_lenL (ev_weak (ev_fresh (fc_linner (r := r) (ev_weak (ev_var rfl))))))) rfl)) ?_))) ?_
      · rw [List.length_map, List.length_map]
        congr 1
        omega
      rw [cut_at]
      refine w_append (i := 3) rfl (d := r.d) (ev_var rfl) (by rw [List.length_take, List.length_map]; omega) ⟨.dat (.int c), .dat r.d, ?_⟩
      rw [pe, List.map_append, List.map_take]
      rfl
  · rintro e ⟨x, y, rfl⟩
    rw [List.length_map, List.take_length]
    refine w_ret (d := (tree z cs).d) ?_ (.inl rfl)
    exact ev_weak (ev_ixO rfl (ev_weak (ev_neg (ev_weak ev_int) rfl)) (tree_at z cs ok))
theorem ec_tree {es : Es} {t1 t2 t3 : TE} {cs : List Int} {z : Hw} {E : XK} (h1 : EvX K t1 es (.list (cs.map PyData.int))) (h3 : EvX K t2 es (.int z.h)) (h4 : EvX K t3 es (.int z.w)) (ok : z.Ok) (hc : cs.length ≤ 1000) :
    EvE K (tCall (sp__law_tree_by K) [] E (tCons t1 (tCons t2 (tCons t3 tNil)))) es (tree z cs).d :=
  ev_call (args := fun a : List Int × Hw => [PyData.list (a.1.map PyData.int), .int a.2.h, .int a.2.w]) (cs, z) (ea_cons h1 (ea_cons h3 (ea_cons h4 ea_nil))) ⟨ok, hc⟩ (Rl.imm_d _)
/-! ### how deep, as the law counts it -/
abbrev sp__law_deep (K : PySem.W.Frag) (n : Nat) : Sp := spF (α := Rl) K (fun r => [r.d]) (fun r => dp r < n) (fun r => .int (dp r : Nat))
theorem none_deep (T : Top K mg w) : FnOk P w K mg base CX0 0 T.a__law_deep T.d__law_deep ["_law_rule"] (sp__law_deep K 0) :=
  ⟨fun vs H Q E ⟨a, _, h, _⟩ => absurd h (Nat.not_lt_zero _), fun A outer s H args us vs Q E _ _ _ _ ⟨a, _, h, _⟩ => absurd h (Nat.not_lt_zero _)⟩
theorem ec_ldeep {n : Nat} {es : Es} {ta : TE} {r : Rl} {E : XK} (h : EvX K ta es r.d) (hn : dp r < n) : EvE K (tCall (sp__law_deep K n) [] E (tCons ta tNil)) es (.int (dp r : Nat)) :=
  ev_call (args := fun r : Rl => [r.d]) r (ea_cons h ea_nil) hn rfl
theorem mx_mem {r : Rl} : ∀ {L : List Rl}, r ∈ L → dp r ≤ mx L
  | x :: L, h => by
    rw [mx_cons]
    rcases List.mem_cons.mp h with rfl | h
    · omega
    · have := mx_mem h
      omega
theorem ok_ldeep (T : Top K mg w) : ∀ n : Nat, FnOk P w K mg base CX0 (n + 1) T.a__law_deep T.d__law_deep ["_law_rule"] (sp__law_deep K n)
  | 0 => (none_deep T).mono (Nat.zero_le _)
  | n + 1 => by
    have ih := ok_ldeep T n
    refine fn_val T.F__law_deep sc__law_deep (fun _ => rfl) fun cdv A outer s H E hr => ⟨_, B__law_deep T ih (Nat.le_refl _) (ok_linner T) (by omega) hr, fun r hp => ?_⟩
    have hp : dp r < n + 1 := hp
    have e0 := dp_inner r
    show Ws K _ [.dat r.d, .no, .no] _
    apply w_seq
    apply w_asg
    · walk_at "e"
    apply w_seq
    refine w_forN (ei_list (ev_fresh (fc_linner (ev_weak (ev_var rfl))))) (fun i e => ∃ x, e = [.dat r.d, .dat (.int (mx (r.inner.take i) : Nat)), x]) ⟨_, rfl⟩ ?_ ?_
    · rintro i d e hd ⟨x, rfl⟩
      rw [List.getElem?_map] at hd
      obtain ⟨y, hy, rfl⟩ := Option.map_eq_some_iff.mp hd
      have my := mx_mem (List.mem_of_getElem? hy)
      have e1 : mx (r.inner.take (i + 1)) = max (mx (r.inner.take i)) (dp y) := by
        rw [List.take_add_one, hy, mx_app]
        show max _ (mx [y]) = _
        rw [mx_cons, mx_nil, Nat.max_zero]
      refine w_asg (ev_is (ev_max2 (ev_weak (ev_var rfl)) (ev_weak (ec_ldeep (r := y) (ev_weak (ev_var rfl)) (by omega)))) ?_) ⟨.dat y.d, rfl⟩
      rw [e1]
      congr 1
      omega
    · rintro e ⟨x, rfl⟩
      rw [List.length_map, List.take_length]
      apply w_ret
      · walk_at "x"
      · left
        show Rt.val (.int ((mx r.inner : Nat) + 1)) = Rt.val (.int (dp r : Nat))
        rw [e0]
        rfl
end
end K02

namespace K02
open PySem PySem.Spec L2 Pu Pr Pl
open Evl (Ex rLenS rMax2 rListS)
open PyProof.Rows (envOfC)
/-! own words of the walk -/
local macro_rules | `(tactic| walk_at "side") => `(tactic| first
  | rfl | exact at_m1 | exact at_m1' | exact at_m1'' | exact at_m2 | exact at_m2' | exact at_m3 | exact at0 | exact at1 | exact at2 | exact at3 | exact at4 | assumption | decide | omega | exact ⟨by decide, by decide⟩ | exact ⟨by omega, by omega⟩ | exact Or.inr ⟨by omega, by omega⟩ | exact Or.inl ⟨by omega, by omega⟩ | exact Or.inr ⟨by decide, by decide⟩)
local macro_rules | `(tactic| walk_at "ec") => `(tactic| fail)
local macro_rules | `(tactic| walk_at "fc") => `(tactic| fail)
local macro_rules | `(tactic| walk_at "tab") => `(tactic| assumption)
local macro_rules | `(tactic| walk_at "shape") => `(tactic| first | rfl | assumption)
local macro_rules | `(tactic| walk_at "e") => `(tactic| first
  | exact ev_int | exact ev_str | exact ev_bl | exact ev_non | exact ev_var rfl
  | (apply ev_ixO; (rfl); (walk_at "x"); (walk_at "side"))
  | (apply ev_ixT; (walk_at "e"); (walk_at "x"); (walk_at "side"))
  | (apply ev_ixL; (walk_at "e"); (walk_at "x"); (walk_at "side"))
  | (apply ev_I0; (walk_at "x"); (walk_at "x"); (rfl))
  | (apply ev_I0b; (walk_at "x"); (walk_at "x"); (rfl))
  | (apply ev_I; (walk_at "x"); (walk_at "x"); (rfl); (walk_at "side"))
  | (apply ev_neg; (walk_at "x"); (rfl))
  | (apply ev_eqI; (walk_at "x"); (walk_at "x"))
  | (apply ev_eqS; (walk_at "x"); (walk_at "x"))
  | (apply ev_eqB; (walk_at "x"); (walk_at "x"))
  | (apply ev_neI; (walk_at "x"); (walk_at "x"))
  | (apply ev_neS; (walk_at "x"); (walk_at "x"))
  | (apply ev_eqD; (walk_at "x"); (walk_at "x"); (walk_at "shape"); (walk_at "shape"))
  | (apply ev_neD; (walk_at "x"); (walk_at "x"); (walk_at "shape"); (walk_at "shape"))
  | (apply ev_andV; (walk_at "x"); (intro _; walk_at "x"))
  | (apply ev_orV; (walk_at "x"); (intro _; walk_at "x"))
  | (apply ev_notV; (walk_at "x"))
  | (apply ev_tup; (walk_at "s"); (exact Nat.le_of_ble_eq_true rfl))
  | (apply ev_slTb; (walk_at "e"); (walk_at "o"); (walk_at "o"); (rfl))
  | (apply ev_lenL; (walk_at "x"))
  | (apply ev_lenT; (walk_at "x"))
  | (apply ev_min2; (walk_at "x"); (walk_at "x"))
  | (apply ev_max2; (walk_at "x"); (walk_at "x"))
  | (apply ev_isi; (walk_at "x"); (first | exact kb_int_int | exact kb_int_bool | exact kb_int_str | exact kb_int_list | exact kb_int_tuple | exact kb_bool_int | exact kb_bool_bool | exact kb_bool_str | exact kb_bool_list | exact kb_bool_tuple | exact kb_str_int | exact kb_str_bool | exact kb_str_str | exact kb_str_list | exact kb_str_tuple | exact kb_list_int | exact kb_list_bool | exact kb_list_str | exact kb_list_list | exact kb_list_tuple | exact kb_tuple_int | exact kb_tuple_bool | exact kb_tuple_str | exact kb_tuple_list | exact kb_tuple_tuple | exact kb_NoneType_int | exact kb_NoneType_bool | exact kb_NoneType_str | exact kb_NoneType_list | exact kb_NoneType_tuple))
  | (apply ev_intB; (walk_at "x"))
  | (apply ev_ixD; (walk_at "x"); (walk_at "tab"))
  | (apply ev_isN; (walk_at "x"))
  | (apply ev_tupO; (rfl))
  | (apply ev_tupL; (walk_at "e"))
  | walk_at "ec"
  | (apply ev_fresh; (walk_at "f")))
local macro_rules | `(tactic| walk_at "f") => `(tactic| first
  | (apply ef_lst; (walk_at "s"); (exact Nat.le_of_ble_eq_true rfl))
  | (apply ef_catA; (walk_at "e"); (walk_at "e"); (walk_at "side"))
  | (apply ef_slO; (rfl); (walk_at "o"); (walk_at "o"))
  | (apply ef_slL; (walk_at "e"); (walk_at "o"); (walk_at "o"))
  | (apply ef_listT; (walk_at "e"))
  | (apply ef_listL; (walk_at "e"))
  | walk_at "fc")
local macro_rules | `(tactic| walk_at "x") => `(tactic| first
  | exact ev_varO rfl
  | (apply ev_weak; (walk_at "e")))
local macro_rules | `(tactic| walk_at "o") => `(tactic| first
  | exact eo_none
  | (apply eo_some; (walk_at "x")))
local macro_rules | `(tactic| walk_at "a") => `(tactic| first
  | exact ea_nil
  | (apply ea_cons; (walk_at "x"); (walk_at "a")))
local macro_rules | `(tactic| walk_at "s") => `(tactic| first
  | exact es_nil
  | (apply es_cons; (walk_at "e"); (walk_at "s")))
local macro_rules | `(tactic| walk_at "b") => `(tactic| first
  | exact eb_yes
  | (apply eb_test; (walk_at "x"))
  | (apply eb_B; (walk_at "x"))
  | (apply eb_truB; (walk_at "x"))
  | (apply eb_truL; (walk_at "x"))
  | (apply eb_truT; (walk_at "x"))
  | (apply eb_truI; (walk_at "x"))
  | (apply eb_not; (walk_at "b"))
  | (apply eb_and; (walk_at "b"); (intro _; walk_at "b"))
  | (apply eb_or; (walk_at "b"); (intro _; walk_at "b")))
section
variable {P : Program} {w : World} {K : PySem.W.Frag} {mg : Str → Option Value} {base : Heap}
theorem _root_.Pu.Ws.post {t : TS} {es : Es} {Po : Post} {N M : Es → Prop} (h : Ws K t es { Po with nx := N }) (h2 : ∀ e, N e → M e) : Ws K t es { Po with nx := M } := .mk fun {G H σ D} S k =>
  h.1 S ⟨fun G' H' σ' es' hn e S' => k.nx _ _ _ _ (h2 _ hn) e S', k.bk, k.ct, k.rt⟩
theorem w_seqI {t u : TS} {es : Es} {Po : Post} (N : Es → Prop) (h : Ws K t es { Po with nx := N }) (h2 : ∀ e, N e → Ws K u e Po) : Ws K (tSeq t u) es Po := w_seq (h.post h2)
theorem eb_andF {t u : TT} {es : Es} (h1 : EvB K t es false) : EvB K (tAnd t u) es false := eb_and (b := false) h1 (fun h => nomatch h)
theorem eb_andT {t u : TT} {es : Es} {b : Bool} (h1 : EvB K t es true) (h2 : EvB K u es b) : EvB K (tAnd t u) es b := eb_is (eb_and h1 fun _ => h2) (Bool.true_and b)
theorem eb_orF {t u : TT} {es : Es} {b : Bool} (h1 : EvB K t es false) (h2 : EvB K u es b) : EvB K (tOr t u) es b := eb_is (eb_or h1 fun _ => h2) (Bool.false_or b)
theorem eb_no {t : TT} {es : Es} (h1 : EvB K t es true) : EvB K (tNot t) es false := eb_not h1
theorem eb_yesN {t : TT} {es : Es} (h1 : EvB K t es false) : EvB K (tNot t) es true := eb_not h1
theorem ev_isiB {es : Es} {ta : TE} {d : PyData} {n : String} {b : Bool} (ha : EvX K ta es d) (hb : kitB (tyName d) n = some b) : EvX K (tCB (rIsi K) (tCons ta (tCons (tC (.ty n)) tNil))) es (.bool b) := ev_weak (ev_isi ha hb)
/-! ### between, names -/
abbrev sp__law_between (K : PySem.W.Frag) : Sp := spF (α := Rf × Rf × P2) K (fun a => [a.1.d, a.2.1.d, pD a.2.2]) (fun _ => True) (fun a => .bool (btw a.1 a.2.1 a.2.2))
theorem ok_btw (T : Top K mg w) : FnOk P w K mg base CX0 1 T.a__law_between T.d__law_between ["_law_one", "_law_two", "_law_place"] (sp__law_between K) := by
  refine fn_val T.F__law_between sc__law_between (fun _ => rfl) fun cdv A outer s H E hr => ⟨_, B__law_between T hr, fun a hp => ?_⟩
  obtain ⟨x, y, p⟩ := a
  show Ws K _ [.dat (.tuple [.int x.r, .int x.c, .bool x.rs, .bool x.cs]), .dat (.tuple [.int y.r, .int y.c, .bool y.rs, .bool y.cs]), .dat (.tuple [.int p.1, .int p.2]), .no] _
  apply w_seq
  apply w_asg
  · walk_at "e"
  apply w_ret
  · walk_at "x"
  · exact .inl rfl
theorem ec_btw {es : Es} {ta tb tc : TE} {x y : Rf} {p : P2} {E : XK} (h : EvX K ta es x.d) (h2 : EvX K tb es y.d) (h3 : EvX K tc es (pD p)) : EvE K (tCall (sp__law_between K) [] E (tCons ta (tCons tb (tCons tc tNil)))) es (.bool (btw x y p)) :=
  ev_call (args := fun a : Rf × Rf × P2 => [a.1.d, a.2.1.d, pD a.2.2]) (x, y, p) (ea_cons h (ea_cons h2 (ea_cons h3 ea_nil))) True.intro rfl
def c1 : Rl → P2 → Bool
  | .cell x, p => decide (x.r = p.1 ∧ x.c = p.2)
  | _, _ => false
def c2 : Rl → P2 → Bool
  | .sum x y, p => btw x y p
  | .most x y, p => btw x y p
  | _, _ => false
def c3 : Rl → P2 → Bool
  | .look _ x y _, p => btw x y p
  | _, _ => false
theorem names_all (r : Rl) (p : P2) : names r p = (c1 r p || (c2 r p || (c3 r p || r.inner.any fun q => names q p))) := by
  cases r <;> simp [names, c1, c2, c3, Rl.inner]
theorem eqv_two (a b c d : Int) : PyData.eqv (.tuple [.int a, .int b]) (.tuple [.int c, .int d]) = decide (a = c ∧ b = d) := by
  simp [PyData.eqv, PyData.eqvAll]
  rfl
abbrev sp__law_names (K : PySem.W.Frag) (n : Nat) : Sp := spF (α := Rl × P2) K (fun a => [a.1.d, pD a.2]) (fun a => dp a.1 < n) (fun a => .bool (names a.1 a.2))
theorem none_names (T : Top K mg w) : FnOk P w K mg base CX0 0 T.a__law_names T.d__law_names ["_law_rule", "_law_place"] (sp__law_names K 0) :=
  ⟨fun vs H Q E ⟨a, _, h, _⟩ => absurd h (Nat.not_lt_zero _), fun A outer s H args us vs Q E _ _ _ _ ⟨a, _, h, _⟩ => absurd h (Nat.not_lt_zero _)⟩
theorem ec_names {n : Nat} {es : Es} {ta tb : TE} {r : Rl} {p : P2} {E : XK} (h : EvX K ta es r.d) (h2 : EvX K tb es (pD p)) (hn : dp r < n) : EvE K (tCall (sp__law_names K n) [] E (tCons ta (tCons tb tNil))) es (.bool (names r p)) :=
  ev_call (args := fun a : Rl × P2 => [a.1.d, pD a.2]) (r, p) (ea_cons h (ea_cons h2 ea_nil)) hn rfl
theorem ok_names (T : Top K mg w) : ∀ n : Nat, FnOk P w K mg base CX0 (n + 1) T.a__law_names T.d__law_names ["_law_rule", "_law_place"] (sp__law_names K n)
  | 0 => (none_names T).mono (Nat.zero_le _)
  | n + 1 => by
    have ih := ok_names T n
    refine fn_val T.F__law_names sc__law_names (fun _ => rfl) fun cdv A outer s H E hr => ⟨_, B__law_names T (ok_btw T) (by omega) (ok_linner T) (by omega) ih (Nat.le_refl _) hr, fun a hp => ?_⟩
    obtain ⟨r, p⟩ := a
    have hp : dp r < n + 1 := hp
    have hn := names_all r p
    show Ws K _ [.dat r.d, .dat (.tuple [.int p.1, .int p.2]), .no] _
    apply w_seq
    refine w_if (b := c1 r p) ?_ (fun h => w_ret (ev_weak ev_bl) (.inl (by rw [h] at hn; show _ = Rt.val (.bool (names r p)); rw [hn]; rfl))) (fun h1 => w_next (w_seq ?_))
    · cases r with
      | cell x =>
        refine eb_andT (eb_eqS (ev_weak (ev_ixT (ev_var rfl) (ev_weak ev_int) at0)) (ev_weak ev_str) (by decide +kernel)) (eb_is (eb_test (ev_weak (ev_eqD (d := .tuple [.int x.r, .int x.c]) (ev_weak (ev_is (ev_slTb (ev_ixT (ev_var rfl) (ev_weak ev_int) at1) eo_none (eo_some (ev_weak ev_int)) rfl) ?_)) (ev_weak (ev_var rfl)) rfl rfl))) (eqv_two ..))
        rw [show (some (2 : Int)) = some ((2 : Nat) : Int) from rfl, cut_at]
        rfl
      | _ => exact eb_andF (eb_eqS (ev_weak (ev_ixT (ev_var rfl) (ev_weak ev_int) at0)) (ev_weak ev_str) (by decide +kernel))
    refine w_if (b := c2 r p) ?_ (fun h => w_ret (ev_weak ev_bl) (.inl (by rw [h1, h] at hn; show _ = Rt.val (.bool (names r p)); rw [hn]; rfl))) (fun h2 => w_next (w_seq ?_))
    · have lst : EvX K (tLst (tCons (tC (.str "sum")) (tCons (tC (.str "most")) tNil))) [.dat r.d, .dat (.tuple [.int p.1, .int p.2]), .no] (.list ((["sum", "most"] : List Str).map PyData.str)) :=
        ev_weak (ev_fresh (ef_lst (es_cons ev_str (es_cons ev_str es_nil)) (Nat.le_of_ble_eq_true rfl)))
      cases r with
      | sum x y => exact eb_andT (eb_strs (ev_weak (ev_ixT (ev_var rfl) (ev_weak ev_int) at0)) lst (by decide +kernel)) (eb_B (ev_weak (ec_btw (ev_weak (ev_ixT (ev_var rfl) (ev_weak ev_int) at1)) (ev_weak (ev_ixT (ev_var rfl) (ev_weak ev_int) at2)) (ev_weak (ev_var rfl)))))
      | most x y => exact eb_andT (eb_strs (ev_weak (ev_ixT (ev_var rfl) (ev_weak ev_int) at0)) lst (by decide +kernel)) (eb_B (ev_weak (ec_btw (ev_weak (ev_ixT (ev_var rfl) (ev_weak ev_int) at1)) (ev_weak (ev_ixT (ev_var rfl) (ev_weak ev_int) at2)) (ev_weak (ev_var rfl)))))
      | _ => exact eb_andF (eb_strs (ev_weak (ev_ixT (ev_var rfl) (ev_weak ev_int) at0)) lst (by decide +kernel))
    refine w_if (b := c3 r p) ?_ (fun h => w_ret (ev_weak ev_bl) (.inl (by rw [h1, h2, h] at hn; show _ = Rt.val (.bool (names r p)); rw [hn]; rfl))) (fun h3 => w_next (w_seq ?_))
    · cases r with
      | look a x y b => exact eb_andT (eb_eqS (ev_weak (ev_ixT (ev_var rfl) (ev_weak ev_int) at0)) (ev_weak ev_str) (by decide +kernel)) (eb_B (ev_weak (ec_btw (ev_weak (ev_ixT (ev_var rfl) (ev_weak ev_int) at2)) (ev_weak (ev_ixT (ev_var rfl) (ev_weak ev_int) at3)) (ev_weak (ev_var rfl)))))
      | _ => exact eb_andF (eb_eqS (ev_weak (ev_ixT (ev_var rfl) (ev_weak ev_int) at0)) (ev_weak ev_str) (by decide +kernel))
    rw [h1, h2, h3, Bool.false_or, Bool.false_or, Bool.false_or] at hn
    have e0 := dp_inner r
    refine w_forN (ei_list (ev_fresh (fc_linner (ev_weak (ev_var rfl))))) (fun i e => ∃ x, ((r.inner.take i).any fun q => names q p) = false ∧ e = [.dat r.d, .dat (.tuple [.int p.1, .int p.2]), x]) ⟨_, rfl, rfl⟩ ?_ ?_
    · rintro i d e hd ⟨x, hx, rfl⟩
      rw [List.getElem?_map] at hd
      obtain ⟨y, hy, rfl⟩ := Option.map_eq_some_iff.mp hd
      have my := mx_mem (List.mem_of_getElem? hy)
      refine w_if (b := names y p) (eb_B (ev_weak (ec_names (r := y) (p := p) (ev_weak (ev_var rfl)) (ev_weak (ev_var rfl)) (by omega)))) (fun h => w_ret (ev_weak ev_bl) (.inl ?_)) (fun h => w_next ⟨.dat y.d, ?_, rfl⟩)
      · show _ = Rt.val (.bool (names r p))
        rw [hn, List.any_eq_true.mpr ⟨y, List.mem_of_getElem? hy, h⟩]
      · rw [List.take_add_one, hy, List.any_append, hx]
        simp [h]
    · rintro e ⟨x, hx, rfl⟩
      rw [List.length_map, List.take_length] at hx
      refine w_ret (ev_weak ev_bl) (.inl ?_)
      show _ = Rt.val (.bool (names r p))
      rw [hn, hx]
/-! ### all references moved -/
def mvA (x : Rf) (dn rt : Int) : Rf := ⟨x.r + dn, x.c + rt, x.rs, x.cs⟩
def shA (dn rt : Int) : Rl → Rl
  | .num n => .num n
  | .cell p => .cell (mvA p dn rt)
  | .add a b => .add (shA dn rt a) (shA dn rt b)
  | .sub a b => .sub (shA dn rt a) (shA dn rt b)
  | .mul a b => .mul (shA dn rt a) (shA dn rt b)
  | .pick a b c => .pick (shA dn rt a) (shA dn rt b) (shA dn rt c)
  | .sum p q => .sum (mvA p dn rt) (mvA q dn rt)
  | .most p q => .most (mvA p dn rt) (mvA q dn rt)
  | .look a p q b => .look (shA dn rt a) (mvA p dn rt) (mvA q dn rt) (shA dn rt b)
def shP (dn rt : Int) : Pt → Pt
  | .rf x => .rf (mvA x dn rt)
  | .rl r => .rl (shA dn rt r)
  | p => p
theorem shA_parts (dn rt : Int) (r : Rl) : (shA dn rt r).parts = r.parts.map (shP dn rt) := by cases r <;> rfl
theorem shA_size (a b : Int) (r : Rl) : (shA a b r).size = r.size := by
  induction r with
  | num n => rfl
  | cell p => rfl
  | sum p q => rfl
  | most p q => rfl
  | add x y h1 h2 => simp only [shA, Rl.size, h1, h2]
  | sub x y h1 h2 => simp only [shA, Rl.size, h1, h2]
  | mul x y h1 h2 => simp only [shA, Rl.size, h1, h2]
  | pick x y z h1 h2 h3 => simp only [shA, Rl.size, h1, h2, h3]
  | look x p q y h1 h2 => simp only [shA, Rl.size, h1, h2]
theorem shA_in {B : Bx} {a b : Int} (h : B.a = 0) (h2 : B.b = 0) {r : Rl} (hi : inb B r) : inb ⟨B.h, B.w, a, b⟩ (shA a b r) := by
  have one : ∀ x : Rf, B.has x.r x.c → Bx.has ⟨B.h, B.w, a, b⟩ (mvA x a b).r (mvA x a b).c := fun x hx => by
    obtain ⟨h3, h4, h5, h6⟩ := hx
    show a ≤ x.r + a ∧ x.r + a < a + B.h ∧ b ≤ x.c + b ∧ x.c + b < b + B.w
    omega
  induction r with
  | num n => exact True.intro
  | cell p => exact one p hi
  | sum p q => exact ⟨one p hi.1, one q hi.2⟩
  | most p q => exact ⟨one p hi.1, one q hi.2⟩
  | add x y h1 h2 => exact ⟨h1 hi.1, h2 hi.2⟩
  | sub x y h1 h2 => exact ⟨h1 hi.1, h2 hi.2⟩
  | mul x y h1 h2 => exact ⟨h1 hi.1, h2 hi.2⟩
  | pick x y z h1 h2 h3 => exact ⟨h1 hi.1, h2 hi.2.1, h3 hi.2.2⟩
  | look x p q y h1 h2 => exact ⟨h1 hi.1, one p hi.2.1, one q hi.2.2.1, h2 hi.2.2.2⟩
theorem dp_size (r : Rl) : dp r ≤ r.size := by
  induction r with
  | num _ => simp only [dp, Rl.size]; omega
  | cell _ => simp only [dp, Rl.size]; omega
  | sum _ _ => simp only [dp, Rl.size]; omega
  | most _ _ => simp only [dp, Rl.size]; omega
  | add a b h1 h2 => simp only [dp, Rl.size]; omega
  | sub a b h1 h2 => simp only [dp, Rl.size]; omega
  | mul a b h1 h2 => simp only [dp, Rl.size]; omega
  | pick a b c h1 h2 h3 => simp only [dp, Rl.size]; omega
  | look a p q b h1 h2 => simp only [dp, Rl.size]; omega
abbrev sp__law_moved (K : PySem.W.Frag) (n : Nat) : Sp := spF (α := Pt × Int × Int) K (fun a => [a.1.d, .int a.2.1, .int a.2.2]) (fun a => a.1.dep < n) (fun a => (shP a.2.1 a.2.2 a.1).d)
theorem ec_lmoved {n : Nat} {es : Es} {ta tb tc : TE} {p : Pt} {dn rt : Int} {E : XK} (h : EvX K ta es p.d) (h2 : EvX K tb es (.int dn)) (h3 : EvX K tc es (.int rt)) (hn : p.dep < n) : EvE K (tCall (sp__law_moved K n) [] E (tCons ta (tCons tb (tCons tc tNil)))) es (shP dn rt p).d :=
  ev_call (args := fun a : Pt × Int × Int => [a.1.d, PyData.int a.2.1, .int a.2.2]) (p, dn, rt) (ea_cons h (ea_cons h2 (ea_cons h3 ea_nil))) hn (Pt.imm_d _)
theorem none_moved (T : Top K mg w) : FnOk P w K mg base CX0 0 T.a__law_moved T.d__law_moved ["_law_part", "_law_down", "_law_right_here"] (sp__law_moved K 0) :=
  ⟨fun vs H Q E ⟨a, _, h, _⟩ => absurd h (Nat.not_lt_zero _), fun A outer s H args us vs Q E _ _ _ _ ⟨a, _, h, _⟩ => absurd h (Nat.not_lt_zero _)⟩
theorem ok_lmoved (T : Top K mg w) : ∀ n : Nat, FnOk P w K mg base CX0 (n + 1) T.a__law_moved T.d__law_moved ["_law_part", "_law_down", "_law_right_here"] (sp__law_moved K n)
  | 0 => (none_moved T).mono (Nat.zero_le _)
  | n + 1 => by
    have ih := ok_lmoved T n
    refine fn_val T.F__law_moved sc__law_moved (fun _ => rfl) fun cdv A outer s H E hr => ⟨_, B__law_moved T ih (Nat.le_refl _) hr, fun a hp => ?_⟩
    obtain ⟨p, dn, rt⟩ := a
    have hp : p.dep < n + 1 := hp
    show Ws K _ [.dat p.d, .dat (.int dn), .dat (.int rt), .no] _
    apply w_seq
    cases p with
    | rf x =>
      refine w_if (b := true) (eb_andT (eb_B (ev_isiB (d := .tuple [.int x.r, .int x.c, .bool x.rs, .bool x.cs]) (ev_weak (ev_var rfl)) kb_tuple_tuple)) (eb_yesN (eb_B (ev_isiB (ev_weak (ev_ixT (ev_var rfl) (ev_weak ev_int) at0)) kb_int_str)))) (fun _ => ?_) (fun h => nomatch h)
      show Ws K _ [.dat (.tuple [.int x.r, .int x.c, .bool x.rs, .bool x.cs]), .dat (.int dn), .dat (.int rt), .no] _
      apply w_ret
      · walk_at "x"
      · exact .inl rfl
    | s x =>
      refine w_if (b := false) (eb_andF (eb_B (ev_isiB (ev_weak (ev_var rfl)) kb_str_tuple))) (fun h => nomatch h) (fun _ => w_next (w_seq ?_))
      refine w_if (b := false) (eb_B (ev_isiB (ev_weak (ev_var rfl)) kb_str_tuple)) (fun h => nomatch h) (fun _ => w_next ?_)
      exact w_ret (ev_weak (ev_var rfl)) (.inl rfl)
    | i x =>
      refine w_if (b := false) (eb_andF (eb_B (ev_isiB (ev_weak (ev_var rfl)) kb_int_tuple))) (fun h => nomatch h) (fun _ => w_next (w_seq ?_))
      refine w_if (b := false) (eb_B (ev_isiB (ev_weak (ev_var rfl)) kb_int_tuple)) (fun h => nomatch h) (fun _ => w_next ?_)
      exact w_ret (ev_weak (ev_var rfl)) (.inl rfl)
    | b x =>
      refine w_if (b := false) (eb_andF (eb_B (ev_isiB (ev_weak (ev_var rfl)) kb_bool_tuple))) (fun h => nomatch h) (fun _ => w_next (w_seq ?_))
      refine w_if (b := false) (eb_B (ev_isiB (ev_weak (ev_var rfl)) kb_bool_tuple)) (fun h => nomatch h) (fun _ => w_next ?_)
      exact w_ret (ev_weak (ev_var rfl)) (.inl rfl)
    | rl r =>
      have hp : r.dep < n + 1 := hp
      show Ws K _ [.dat r.d, .dat (.int dn), .dat (.int rt), .no] _
      refine w_if (b := false) ?_ (fun h => nomatch h) (fun _ => w_next (w_seq ?_))
      · have t := kb_rl_tuple r
        cases r <;> exact eb_andT (eb_B (ev_isiB (ev_weak (ev_var rfl)) t)) (eb_no (eb_B (ev_isiB (ev_weak (ev_ixT (ev_var rfl) (ev_weak ev_int) at0)) kb_str_str)))
      refine w_if (b := true) (eb_B (ev_isiB (ev_weak (ev_var rfl)) (kb_rl_tuple r))) (fun _ => ?_) (fun h => nomatch h)
      rw [Rl.d_parts]
      have e0 : (shP dn rt (.rl r)).d = .tuple ((r.parts.map (shP dn rt)).map Pt.d) := by
        show (shA dn rt r).d = _
        rw [Rl.d_parts, shA_parts]
      refine w_ret (d := .tuple ((r.parts.map (shP dn rt)).map Pt.d)) (ev_weak (ev_tupL (ev_fresh (ef_lcX _ (ei_tup (ev_var rfl)) ?_ (wipe_set (by decide)) ?_ ?_)))) (.inl (by rw [← e0]))
      · rw [List.length_map]
        exact Nat.le_trans r.parts_len (by decide)
      · rw [List.length_map, List.length_map, List.length_map]
      · intro i d q hd hq
        rw [List.getElem?_map] at hd
        obtain ⟨p, hp1, rfl⟩ := Option.map_eq_some_iff.mp hd
        rw [List.getElem?_map, List.getElem?_map, hp1] at hq
        have hq : some (shP dn rt p).d = some q := hq
        cases hq
        have hpd := r.parts_dep p (List.mem_of_getElem? hp1)
        refine ec_lmoved (p := p) (ev_weak (ev_var rfl)) (ev_weak (ev_var rfl)) (ev_weak (ev_var rfl)) (by omega)
end
end K02

namespace K02
open PySem PySem.Spec L2 Pu Pr Pl
open Evl (Ex rLenS rMax2 rListS)
open PyProof.Rows (envOfC)
/-! own words of the walk -/
local macro_rules | `(tactic| walk_at "side") => `(tactic| first
  | rfl | exact at_m1 | exact at_m1' | exact at_m1'' | exact at_m2 | exact at_m2' | exact at_m3 | exact at0 | exact at1 | exact at2 | exact at3 | exact at4 | assumption | decide | omega | exact ⟨by decide, by decide⟩ | exact ⟨by omega, by omega⟩ | exact Or.inr ⟨by omega, by omega⟩ | exact Or.inl ⟨by omega, by omega⟩ | exact Or.inr ⟨by decide, by decide⟩)
local macro_rules | `(tactic| walk_at "ec") => `(tactic| fail)
local macro_rules | `(tactic| walk_at "fc") => `(tactic| fail)
local macro_rules | `(tactic| walk_at "tab") => `(tactic| assumption)
local macro_rules | `(tactic| walk_at "shape") => `(tactic| first | rfl | assumption)
local macro_rules | `(tactic| walk_at "e") => `(tactic| first
  | exact ev_int | exact ev_str | exact ev_bl | exact ev_non | exact ev_var rfl
  | (apply ev_ixO; (rfl); (walk_at "x"); (walk_at "side"))
  | (apply ev_ixT; (walk_at "e"); (walk_at "x"); (walk_at "side"))
  | (apply ev_ixL; (walk_at "e"); (walk_at "x"); (walk_at "side"))
  | (apply ev_I0; (walk_at "x"); (walk_at "x"); (rfl))
  | (apply ev_I0b; (walk_at "x"); (walk_at "x"); (rfl))
  | (apply ev_I; (walk_at "x"); (walk_at "x"); (rfl); (walk_at "side"))
  | (apply ev_neg; (walk_at "x"); (rfl))
  | (apply ev_eqI; (walk_at "x"); (walk_at "x"))
  | (apply ev_eqS; (walk_at "x"); (walk_at "x"))
  | (apply ev_eqB; (walk_at "x"); (walk_at "x"))
  | (apply ev_neI; (walk_at "x"); (walk_at "x"))
  | (apply ev_neS; (walk_at "x"); (walk_at "x"))
  | (apply ev_eqD; (walk_at "x"); (walk_at "x"); (walk_at "shape"); (walk_at "shape"))
  | (apply ev_neD; (walk_at "x"); (walk_at "x"); (walk_at "shape"); (walk_at "shape"))
  | (apply ev_andV; (walk_at "x"); (intro _; walk_at "x"))
  | (apply ev_orV; (walk_at "x"); (intro _; walk_at "x"))
  | (apply ev_notV; (walk_at "x"))
  | (apply ev_tup; (walk_at "s"); (exact Nat.le_of_ble_eq_true rfl))
  | (apply ev_slTb; (walk_at "e"); (walk_at "o"); (walk_at "o"); (rfl))
  | (apply ev_lenL; (walk_at "x"))
  | (apply ev_lenT; (walk_at "x"))
  | (apply ev_min2; (walk_at "x"); (walk_at "x"))
  | (apply ev_max2; (walk_at "x"); (walk_at "x"))
  | (apply ev_isi; (walk_at "x"); (first | exact kb_int_int | exact kb_int_bool | exact kb_int_str | exact kb_int_list | exact kb_int_tuple | exact kb_bool_int | exact kb_bool_bool | exact kb_bool_str | exact kb_bool_list | exact kb_bool_tuple | exact kb_str_int | exact kb_str_bool | exact kb_str_str | exact kb_str_list | exact kb_str_tuple | exact kb_list_int | exact kb_list_bool | exact kb_list_str | exact kb_list_list | exact kb_list_tuple | exact kb_tuple_int | exact kb_tuple_bool | exact kb_tuple_str | exact kb_tuple_list | exact kb_tuple_tuple | exact kb_NoneType_int | exact kb_NoneType_bool | exact kb_NoneType_str | exact kb_NoneType_list | exact kb_NoneType_tuple))
  | (apply ev_intB; (walk_at "x"))
  | (apply ev_ixD; (walk_at "x"); (walk_at "tab"))
  | (apply ev_isN; (walk_at "x"))
  | (apply ev_tupO; (rfl))
  | (apply ev_tupL; (walk_at "e"))
  | walk_at "ec"
  | (apply ev_fresh; (walk_at "f")))
local macro_rules | `(tactic| walk_at "f") => `(tactic| first
  | (apply ef_lst; (walk_at "s"); (exact Nat.le_of_ble_eq_true rfl))
  | (apply ef_catA; (walk_at "e"); (walk_at "e"); (walk_at "side"))
  | (apply ef_slO; (rfl); (walk_at "o"); (walk_at "o"))
  | (apply ef_slL; (walk_at "e"); (walk_at "o"); (walk_at "o"))
  | (apply ef_listT; (walk_at "e"))
  | (apply ef_listL; (walk_at "e"))
  | walk_at "fc")
local macro_rules | `(tactic| walk_at "x") => `(tactic| first
  | exact ev_varO rfl
  | (apply ev_weak; (walk_at "e")))
local macro_rules | `(tactic| walk_at "o") => `(tactic| first
  | exact eo_none
  | (apply eo_some; (walk_at "x")))
local macro_rules | `(tactic| walk_at "a") => `(tactic| first
  | exact ea_nil
  | (apply ea_cons; (walk_at "x"); (walk_at "a")))
local macro_rules | `(tactic| walk_at "s") => `(tactic| first
  | exact es_nil
  | (apply es_cons; (walk_at "e"); (walk_at "s")))
local macro_rules | `(tactic| walk_at "b") => `(tactic| first
  | exact eb_yes
  | (apply eb_test; (walk_at "x"))
  | (apply eb_B; (walk_at "x"))
  | (apply eb_truB; (walk_at "x"))
  | (apply eb_truL; (walk_at "x"))
  | (apply eb_truT; (walk_at "x"))
  | (apply eb_truI; (walk_at "x"))
  | (apply eb_not; (walk_at "b"))
  | (apply eb_and; (walk_at "b"); (intro _; walk_at "b"))
  | (apply eb_or; (walk_at "b"); (intro _; walk_at "b")))
local macro_rules | `(tactic| walk_at "ec") => `(tactic| first
  | (apply ec_cell; (walk_at "x"); (walk_at "x"); (decide)))
section
variable {P : Program} {w : World} {K : PySem.W.Frag} {mg : Str → Option Value} {base : Heap}
theorem eqv_pl : ∀ ps : List P2, PyData.eqvAll (plD ps) (plD ps) = true
  | [] => rfl
  | p :: ps => by
    show (PyData.eqv (pD p) (pD p) && PyData.eqvAll (plD ps) (plD ps)) = true
    rw [eqv_pl ps]
    simp [pD, PyData.eqv, PyData.eqvAll]
theorem lay_pl : ∀ ps : List P2, PyData.canLayAll0 (plD ps) = true
  | [] => rfl
  | p :: ps => by
    show (PyData.canLay0 (pD p) && PyData.canLayAll0 (plD ps)) = true
    rw [lay_pl ps]
    rfl
theorem depth_pl : ∀ ps : List P2, PyData.depthAll (plD ps) ≤ 1
  | [] => Nat.zero_le _
  | p :: ps => by
    show max (PyData.depth (pD p)) (PyData.depthAll (plD ps)) ≤ 1
    exact Nat.max_le.mpr ⟨Nat.le_of_ble_eq_true rfl, depth_pl ps⟩
theorem shaped_pl (ps : List P2) : SeqAt.shaped (.list (plD ps)) = true := by
  unfold SeqAt.shaped
  rw [Bool.and_eq_true_iff]
  refine ⟨lay_pl ps, decide_eq_true ?_⟩
  show PyData.depthAll (plD ps) + 1 ≤ 64
  have := depth_pl ps
  omega
def plcD (B : Bx) : PyData → PyData
  | .int k => pD (k / (B.w : Int) + B.a, k % (B.w : Int) + B.b)
  | _ => .none
def nmD (r : Rl) : PyData → Bool
  | .tuple [.int x, .int y] => names r (x, y)
  | _ => false
theorem ps_of (B : Bx) : (rngD 0 (B.h * B.w)).map (plcD B) = plD B.ps := by
  unfold rngD plD Bx.ps
  rw [List.map_map, List.map_map]
  refine List.map_congr_left fun k _ => ?_
  show pD ((0 + (k : Int)) / (B.w : Int) + B.a, (0 + (k : Int)) % (B.w : Int) + B.b) = pD (((k / B.w : Nat) : Int) + B.a, ((k % B.w : Nat) : Int) + B.b)
  rw [Int.zero_add, Int.natCast_ediv, Int.natCast_emod]
theorem due_of (B : Bx) (r : Rl) : ((plD B.ps).filter (nmD r)).map id = plD (need B r) := by
  unfold need plD
  rw [List.map_id, List.filter_map]
  rfl
structure Rg (n : Nat) (r : Rl) (B : Bx) : Prop where
  size : r.size ≤ 1000
  ok : B.Ok
  ins : inb B r
  dp : dp r < n
abbrev sp__law_right (K : PySem.W.Frag) (n : Nat) : Sp := spF (α := Rl × Bx) K (fun a => [a.1.d, .int (a.2.h : Nat), .int (a.2.w : Nat), .tuple [.int a.2.a, .int a.2.b]]) (fun a => Rg n a.1 a.2) (fun _ => .bool true)
theorem ok_right (T : Top K mg w) (n : Nat) : FnOk P w K mg base CX0 (n + 4) T.a__law_right T.d__law_right ["_law_rule", "_law_high", "_law_wide", "_law_away"] (sp__law_right K n) := by
  refine fn_val T.F__law_right sc__law_right (fun _ => rfl) fun cdv A outer s H E hr => ⟨_, B__law_right T (ok_ldeep T n) (by omega) (ok_names T n) (by omega) (ok_whole T) (by omega) (ok_deep T) (by omega) (ok_needed T) (by omega) hr, fun a hp => ?_⟩
  obtain ⟨r, B⟩ := a
  obtain ⟨hz, ok, hin, hdp⟩ : Rg n r B := hp
  have hw := ok.hw
  have few := ok.few
  show Ws K _ [.dat r.d, .dat (.int (B.h : Nat)), .dat (.int (B.w : Nat)), .dat (.tuple [.int B.a, .int B.b]), .no, .no, .no, .no, .no] _
  have lp : (plD B.ps).length = B.h * B.w := by
    unfold plD Bx.ps
    rw [List.length_map, List.length_map, List.length_range]
  apply w_seq
  refine w_asg (d := .list (plD B.ps)) (ev_fresh (ev_isF (ef_lcA (plcD B) (ei_rng1 (n := ((B.h * B.w : Nat) : Int)) (ea_cons (ev_isX (ev_weak (ev_I (i := ((B.h : Nat) : Int)) (j := ((B.w : Nat) : Int)) (ev_weak (ev_var rfl)) (ev_weak (ev_var rfl)) rfl ?cm)) ?_) ea_nil) ⟨by omega, by omega⟩) ?_ (wipe_set (by decide)) ?_) ?_)) ?_
  case cm =>
    have := ok.w2
    exact Or.inr ⟨by omega, by omega⟩
  · rw [Int.natCast_mul]
  · rw [rngD_len, Int.toNat_natCast]
    omega
  · intro d hd
    obtain ⟨k, hk, rfl⟩ := List.mem_map.mp hd
    have hw2 : 0 < (B.w : Int) := by omega
    have cdv2 : CDiv (0 + (k : Int)) (B.w : Int) := by
      have := ok.w2
      unfold CDiv
      first | exact ⟨by omega, by omega⟩ | exact Or.inr ⟨by omega, by omega⟩ | exact ⟨by omega, Or.inr ⟨by omega, by omega⟩⟩ | exact ⟨Or.inr ⟨by omega, by omega⟩, by omega⟩ | omega
    show EvE K _ _ (.tuple [.int ((0 + (k : Nat)) / (B.w : Int) + B.a), .int ((0 + (k : Nat)) % (B.w : Int) + B.b)])
    refine ev_tup (es_cons (ev_I0 (ev_weak (ev_I ?_ ?_ rfl ?_)) ?_ rfl) (es_cons (ev_I0 (ev_weak (ev_I ?_ ?_ rfl ?_)) ?_ rfl) es_nil)) (Nat.le_of_ble_eq_true rfl)
    · walk_at "x"
    · walk_at "x"
    · exact cdv2
    · walk_at "x"
    · walk_at "x"
    · walk_at "x"
    · walk_at "side"
    · walk_at "x"
  · rw [Int.toNat_natCast]
    exact ps_of B
  apply w_seq
  refine w_asg (d := .list (plD (need B r))) (ev_fresh (ev_isF (ef_lc (nmD r) id (ei_list (ev_var rfl)) ?_ (wipe_set (by decide)) ?_ fun d hd _ => ev_var rfl) (due_of B r))) ?_
  · rw [lp]
    omega
  · intro d hd
    obtain ⟨p, hp, rfl⟩ := List.mem_map.mp hd
    exact eb_B (ev_weak (ec_names (r := r) (p := p) (ev_weak (ev_var rfl)) (ev_weak (ev_var rfl)) hdp))
  apply w_seq
  refine w_asg (ev_fresh (fc_needed (r := r) (B := B) (ev_weak (ev_var rfl)) hz ok hin)) ?_
  apply w_seq
  refine w_if (b := false) (eb_orF (eb_no (eb_B (ev_isiB (ev_weak (ev_var rfl)) kb_list_list))) (eb_orF (eb_is (eb_test (ev_weak (ev_neD (ev_weak (ev_var rfl)) (ev_weak (ev_var rfl)) (shaped_pl _) (shaped_pl _)))) ?_) (eb_no (eb_B (ev_weak (ec_whole (ev_weak (ev_call (args := fun r : Rl => [r.d]) r (ea_cons (ev_weak (ev_var rfl)) ea_nil) hz rfl)))))))) (fun h => nomatch h) (fun _ => w_next (w_seq ?_))
  · show (!PyData.eqvAll (plD (need B r)) (plD (need B r))) = false
    rw [eqv_pl]
    rfl
  refine w_forN (ei_list (ev_var rfl)) (fun i e => ∃ x, e = [.dat r.d, .dat (.int (B.h : Nat)), .dat (.int (B.w : Nat)), .dat (.tuple [.int B.a, .int B.b]), .dat (.list (plD B.ps)), .dat (.list (plD (need B r))), .dat (.list (plD (need B r))), x, .no]) ⟨_, rfl⟩ ?_ ?_
  · rintro i d e hd ⟨x, rfl⟩
    obtain ⟨p, hp, rfl⟩ := List.mem_map.mp (List.mem_of_getElem? hd)
    refine w_if (b := false) (eb_orF (eb_no (eb_B (ev_isiB (d := .tuple [.int p.1, .int p.2]) (ev_weak (ev_var rfl)) kb_tuple_tuple))) (eb_orF (eb_no (eb_B (ev_weak (ec_whole (i := p.1) (ev_weak (ev_ixT (ev_var rfl) (ev_weak ev_int) at0)))))) (eb_no (eb_B (ev_weak (ec_whole (i := p.2) (ev_weak (ev_ixT (ev_var rfl) (ev_weak ev_int) at1)))))))) (fun h => nomatch h) (fun _ => w_next ⟨_, rfl⟩)
  · rintro e ⟨x, rfl⟩
    refine w_ret (d := .bool (decide (((dp r : Nat) : Int) = ((dp r : Nat) : Int)))) (ev_weak (ev_eqI (ev_weak (ev_call (args := fun r : Rl => [r.d]) r (ea_cons (ev_weak (ev_var rfl)) ea_nil) hz rfl)) (ev_weak (ec_ldeep (r := r) (ev_weak (ev_var rfl)) hdp)))) (.inl ?_)
    rw [decide_eq_true rfl]
theorem ec_right {n : Nat} {es : Es} {t1 t2 t3 t4 : TE} {r : Rl} {B : Bx} {E : XK} (h1 : EvX K t1 es r.d) (h2 : EvX K t2 es (.int (B.h : Nat))) (h3 : EvX K t3 es (.int (B.w : Nat))) (h4 : EvX K t4 es (.tuple [.int B.a, .int B.b])) (ok : Rg n r B) :
    EvE K (tCall (sp__law_right K n) [] E (tCons t1 (tCons t2 (tCons t3 (tCons t4 tNil))))) es (.bool true) :=
  ev_call (args := fun a : Rl × Bx => [a.1.d, PyData.int (a.2.h : Nat), .int (a.2.w : Nat), .tuple [.int a.2.a, .int a.2.b]]) (r, B) (ea_cons h1 (ea_cons h2 (ea_cons h3 (ea_cons h4 ea_nil)))) ok rfl
theorem inner_in {B : Bx} {r q : Rl} (h : inb B r) (hq : q ∈ r.inner) : inb B q := by
  cases r with
  | num n => cases hq
  | cell p => cases hq
  | sum x y => cases hq
  | most x y => cases hq
  | add a b =>
    rcases List.mem_cons.mp hq with rfl | hq
    · exact h.1
    · rw [List.mem_singleton.mp hq]
      exact h.2
  | sub a b =>
    rcases List.mem_cons.mp hq with rfl | hq
    · exact h.1
    · rw [List.mem_singleton.mp hq]
      exact h.2
  | mul a b =>
    rcases List.mem_cons.mp hq with rfl | hq
    · exact h.1
    · rw [List.mem_singleton.mp hq]
      exact h.2
  | look a x y b =>
    rcases List.mem_cons.mp hq with rfl | hq
    · exact h.1
    · rw [List.mem_singleton.mp hq]
      exact h.2.2.2
  | pick a b c =>
    rcases List.mem_cons.mp hq with rfl | hq
    · exact h.1
    rcases List.mem_cons.mp hq with rfl | hq
    · exact h.2.1
    · rw [List.mem_singleton.mp hq]
      exact h.2.2
theorem inner_size {r q : Rl} (hq : q ∈ r.inner) : q.size ≤ r.size := by
  have e := Rl.size_inner r
  have h : q.size ≤ (r.inner.map Rl.size).sum := by
    generalize r.inner = L at hq
    induction L with
    | nil => cases hq
    | cons x L ih =>
      rw [List.map_cons, List.sum_cons]
      rcases List.mem_cons.mp hq with rfl | hq
      · omega
      · have := ih hq
        omega
  omega
theorem Rg.inner {n : Nat} {r q : Rl} {B : Bx} (h : Rg n r B) (hq : q ∈ r.inner) : Rg n q B where
  size := Nat.le_trans (inner_size hq) h.size
  ok := h.ok
  ins := inner_in h.ins hq
  dp := by
    have h1 := mx_mem hq
    have h2 := dp_inner r
    have h3 := h.dp
    omega
def sel (a b c k : Int) : Int := if k = 0 then a else if k = 1 then b else c
theorem sel_at (a b c : Int) {k : Int} (h0 : 0 ≤ k) (h3 : k < 3) : atI [PyData.int a, .int b, .int c] k = some (.int (sel a b c k)) := by
  have h : k = 0 ∨ k = 1 ∨ k = 2 := by omega
  rcases h with rfl | rfl | rfl <;> rfl
def hwOf (k : Int) : Hw := ⟨sel 5 2 12 k, sel 5 12 2 k⟩
theorem hwOf_ok {k : Int} (h0 : 0 ≤ k) (h3 : k < 3) : (hwOf k).Ok ∧ (hwOf k).h.toNat * (hwOf k).w.toNat < 63 ∧ (hwOf k).w.toNat ≤ 100 := by
  have h : k = 0 ∨ k = 1 ∨ k = 2 := by omega
  rcases h with rfl | rfl | rfl <;> exact ⟨⟨by decide, by decide⟩, by decide, by decide⟩
abbrev spLaw (K : PySem.W.Frag) : Sp := spF (α := List Int) K (fun ns => [.list (ns.map PyData.int)]) (fun ns => ns.length ≤ 63) (fun _ => .bool true)
theorem ok_law (T : Top K mg w) : FnOk P w K mg base CX0 42 T.a_law T.d_law ["_law_script"] (spLaw K) := by
  refine fn_val T.F_law sc_law (fun _ => rfl) fun cdv A outer s H E hr => ⟨_, B_law T (ok_cell T) (by decide) (ok_linner T) (by decide) (ok_lmoved T 40) (by decide) (ok_right T 37) (by decide) (ok_tree T) (by decide) hr, fun ns hp => ?_⟩
  show Ws K _ [.dat (.list (ns.map PyData.int)), .no, .no, .no, .no, .no] _
  have hc : cutD (ns.map PyData.int) (some 1) (some 15) = ((ns.drop 1).take 14).map PyData.int := by
    rw [show (some (1 : Int)) = some ((1 : Nat) : Int) from rfl, show (some (15 : Int)) = some ((15 : Nat) : Int) from rfl, cut_fix, List.map_take, List.map_drop]
  have k0 : 0 ≤ cell ns (Int.toNat 0) % 3 := by omega
  have k3 : cell ns (Int.toNat 0) % 3 < 3 := by omega
  have s1 := sel_at 5 2 12 k0 k3
  have s2 := sel_at 5 12 2 k0 k3
  have hk := hwOf_ok k0 k3
  generalize hz : hwOf (cell ns (Int.toNat 0) % 3) = z at hk
  have zh : sel 5 2 12 (cell ns (Int.toNat 0) % 3) = z.h := by rw [← hz]; rfl
  have zw : sel 5 12 2 (cell ns (Int.toNat 0) % 3) = z.w := by rw [← hz]; rfl
  obtain ⟨zok, zf, zw2⟩ := hk
  apply w_seq
  refine w_asg (d := .int z.h) (ev_is (ev_ixL (ev_fresh (ef_lst (es_cons ev_int (es_cons ev_int (es_cons ev_int es_nil))) (Nat.le_of_ble_eq_true rfl))) ?_ s1) (by rw [zh])) ?_
  · walk_at "x"
  apply w_seq
  refine w_asg (d := .int z.w) (ev_is (ev_ixL (ev_fresh (ef_lst (es_cons ev_int (es_cons ev_int (es_cons ev_int es_nil))) (Nat.le_of_ble_eq_true rfl))) ?_ s2) (by rw [zw])) ?_
  · walk_at "x"
  apply w_seq
  apply w_asg
  · walk_at "e"
  refine w_seqI (fun e => ∃ a b : Int, -100 ≤ b ∧ b ≤ 100 ∧ e = [.dat (.list (ns.map PyData.int)), .dat (.int z.h), .dat (.int z.w), .dat (.tuple [.int a, .int b]), .no, .no]) ?_ ?_
  · apply w_if
    · walk_at "b"
    · intro _
      apply w_asg
      · walk_at "e"
      · exact ⟨_, _, by omega, by omega, rfl⟩
    · intro _
      apply w_next
      exact ⟨0, 0, by decide, by decide, rfl⟩
  rintro e ⟨a, b, hb1, hb2, rfl⟩
  have ht := tree_ok zok ((ns.drop 1).take 14)
  have hl : ((ns.drop 1).take 14).length ≤ 14 := by
    rw [List.length_take]
    omega
  generalize htr : tree z ((ns.drop 1).take 14) = t at ht
  have hsz : (shA a b t).size ≤ 15 := by
    rw [shA_size]
    omega
  have hdep := t.dep_size
  have rg : Rg 37 (shA a b t) ⟨z.h.toNat, z.w.toNat, a, b⟩ := by
    refine ⟨by omega, ⟨?_, zf, hb1, hb2, zw2⟩, shA_in rfl rfl ht.2, ?_⟩
    · show 0 < z.w.toNat
      have := zok.w
      omega
    · have := dp_size (shA a b t)
      omega
  have zhn : ((z.h.toNat : Nat) : Int) = z.h := Int.toNat_of_nonneg (Int.le_of_lt zok.h)
  have zwn : ((z.w.toNat : Nat) : Int) = z.w := Int.toNat_of_nonneg (Int.le_of_lt zok.w)
  apply w_seq
  refine w_asg (d := (shA a b t).d) (ec_lmoved (p := .rl t) (dn := a) (rt := b) (ev_isX (ev_weak (ec_tree (cs := (ns.drop 1).take 14) (z := z) (ev_weak (ev_fresh (ev_isF (ef_slL (ev_var rfl) (eo_some (ev_weak ev_int)) (eo_some (ev_weak ev_int))) hc))) (ev_weak (ev_var rfl)) (ev_weak (ev_var rfl)) zok (by omega))) (by rw [htr]; rfl)) (ev_weak (ev_ixT (ev_var rfl) (ev_weak ev_int) at0)) (ev_weak (ev_ixT (ev_var rfl) (ev_weak ev_int) at1)) ?_) ?_
  · show t.dep < 40
    omega
  apply w_seq
  refine w_if (b := false) (eb_no (eb_B (ev_weak (ec_right (r := shA a b t) (B := ⟨z.h.toNat, z.w.toNat, a, b⟩) (ev_weak (ev_var rfl)) (ev_isX (ev_weak (ev_var rfl)) (by rw [zhn])) (ev_isX (ev_weak (ev_var rfl)) (by rw [zwn])) (ev_weak (ev_var rfl)) rg)))) (fun h => nomatch h) (fun _ => w_next (w_seq ?_))
  refine w_forN (ei_list (ev_fresh (fc_linner (r := shA a b t) (ev_weak (ev_var rfl))))) (fun i e => ∃ x, e = [.dat (.list (ns.map PyData.int)), .dat (.int z.h), .dat (.int z.w), .dat (.tuple [.int a, .int b]), .dat (shA a b t).d, x]) ⟨_, rfl⟩ ?_ ?_
  · rintro i d e hd ⟨x, rfl⟩
    obtain ⟨y, hy, rfl⟩ := List.mem_map.mp (List.mem_of_getElem? hd)
    exact w_if (b := false) (eb_no (eb_B (ev_weak (ec_right (r := y) (B := ⟨z.h.toNat, z.w.toNat, a, b⟩) (ev_weak (ev_var rfl)) (ev_isX (ev_weak (ev_var rfl)) (by rw [zhn])) (ev_isX (ev_weak (ev_var rfl)) (by rw [zwn])) (ev_weak (ev_var rfl)) (rg.inner hy))))) (fun h => nomatch h) (fun _ => w_next ⟨_, rfl⟩)
  · rintro e ⟨x, rfl⟩
    exact w_ret (ev_weak ev_bl) (.inl rfl)
end
end K02

namespace K02
open PySem PySem.Spec L2 Pu
open Evl (Ex rLenS rMax2 rListS)
open PyProof.Rows (envOfC)
theorem all_mk {l : PySem.W.OpenLaw} {w : World} {K : PySem.W.Frag} {h : Heap} {mg : Str → Option Value} {fa : Addr} (X : K.In h) (G : h.Ns mainGlobals mg) (hfa : mg "law" = some (.ref fa))
    {f0 : Addr} {od0 an0 : Option Addr} {sl0 : Array (Option Value)} {oc0 kV0 dc0 pm0 cd0 ct0 : Value}
    (a0 : PySem.W.nsIn K mainGlobals "area" = some (some (.ref f0))) (l0 : K.lookup f0 = some ⟨oc0, od0, .func (PySem.W.fnOf "area" "area" (defArgs s_area) (defBody s_area) (defScope s_area) .none kV0 dc0 pm0 an0 cd0 ct0), sl0⟩) (c0 : PySem.W.codeIn K cd0 "area" = true) (k0 : PySem.W.keepIn K (.ref f0) = true)
    {f1 : Addr} {od1 an1 : Option Addr} {sl1 : Array (Option Value)} {oc1 kV1 dc1 pm1 cd1 ct1 : Value}
    (a1 : PySem.W.nsIn K mainGlobals "inner_rules" = some (some (.ref f1))) (l1 : K.lookup f1 = some ⟨oc1, od1, .func (PySem.W.fnOf "inner_rules" "inner_rules" (defArgs s_inner_rules) (defBody s_inner_rules) (defScope s_inner_rules) .none kV1 dc1 pm1 an1 cd1 ct1), sl1⟩) (c1 : PySem.W.codeIn K cd1 "inner_rules" = true) (k1 : PySem.W.keepIn K (.ref f1) = true)
    {f2 : Addr} {od2 an2 : Option Addr} {sl2 : Array (Option Value)} {oc2 kV2 dc2 pm2 cd2 ct2 : Value}
    (a2 : PySem.W.nsIn K mainGlobals "references" = some (some (.ref f2))) (l2 : K.lookup f2 = some ⟨oc2, od2, .func (PySem.W.fnOf "references" "references" (defArgs s_references) (defBody s_references) (defScope s_references) .none kV2 dc2 pm2 an2 cd2 ct2), sl2⟩) (c2 : PySem.W.codeIn K cd2 "references" = true) (k2 : PySem.W.keepIn K (.ref f2) = true)
    {f3 : Addr} {od3 an3 : Option Addr} {sl3 : Array (Option Value)} {oc3 kV3 dc3 pm3 cd3 ct3 : Value}
    (a3 : PySem.W.nsIn K mainGlobals "outer_first" = some (some (.ref f3))) (l3 : K.lookup f3 = some ⟨oc3, od3, .func (PySem.W.fnOf "outer_first" "outer_first" (defArgs s_outer_first) (defBody s_outer_first) (defScope s_outer_first) .none kV3 dc3 pm3 an3 cd3 ct3), sl3⟩) (c3 : PySem.W.codeIn K cd3 "outer_first" = true) (k3 : PySem.W.keepIn K (.ref f3) = true)
    {f4 : Addr} {od4 an4 : Option Addr} {sl4 : Array (Option Value)} {oc4 kV4 dc4 pm4 cd4 ct4 : Value}
    (a4 : PySem.W.nsIn K mainGlobals "deep" = some (some (.ref f4))) (l4 : K.lookup f4 = some ⟨oc4, od4, .func (PySem.W.fnOf "deep" "deep" (defArgs s_deep) (defBody s_deep) (defScope s_deep) .none kV4 dc4 pm4 an4 cd4 ct4), sl4⟩) (c4 : PySem.W.codeIn K cd4 "deep" = true) (k4 : PySem.W.keepIn K (.ref f4) = true)
    {f5 : Addr} {od5 an5 : Option Addr} {sl5 : Array (Option Value)} {oc5 kV5 dc5 pm5 cd5 ct5 : Value}
    (a5 : PySem.W.nsIn K mainGlobals "named" = some (some (.ref f5))) (l5 : K.lookup f5 = some ⟨oc5, od5, .func (PySem.W.fnOf "named" "named" (defArgs s_named) (defBody s_named) (defScope s_named) .none kV5 dc5 pm5 an5 cd5 ct5), sl5⟩) (c5 : PySem.W.codeIn K cd5 "named" = true) (k5 : PySem.W.keepIn K (.ref f5) = true)
    {f6 : Addr} {od6 an6 : Option Addr} {sl6 : Array (Option Value)} {oc6 kV6 dc6 pm6 cd6 ct6 : Value}
    (a6 : PySem.W.nsIn K mainGlobals "needed" = some (some (.ref f6))) (l6 : K.lookup f6 = some ⟨oc6, od6, .func (PySem.W.fnOf "needed" "needed" (defArgs s_needed) (defBody s_needed) (defScope s_needed) .none kV6 dc6 pm6 an6 cd6 ct6), sl6⟩) (c6 : PySem.W.codeIn K cd6 "needed" = true) (k6 : PySem.W.keepIn K (.ref f6) = true)
    {f7 : Addr} {od7 an7 : Option Addr} {sl7 : Array (Option Value)} {oc7 kV7 dc7 pm7 cd7 ct7 : Value}
    (a7 : PySem.W.nsIn K mainGlobals "_law_whole" = some (some (.ref f7))) (l7 : K.lookup f7 = some ⟨oc7, od7, .func (PySem.W.fnOf "_law_whole" "_law_whole" (defArgs s__law_whole) (defBody s__law_whole) (defScope s__law_whole) .none kV7 dc7 pm7 an7 cd7 ct7), sl7⟩) (c7 : PySem.W.codeIn K cd7 "_law_whole" = true) (k7 : PySem.W.keepIn K (.ref f7) = true)
    {f8 : Addr} {od8 an8 : Option Addr} {sl8 : Array (Option Value)} {oc8 kV8 dc8 pm8 cd8 ct8 : Value}
    (a8 : PySem.W.nsIn K mainGlobals "_law_cell_at" = some (some (.ref f8))) (l8 : K.lookup f8 = some ⟨oc8, od8, .func (PySem.W.fnOf "_law_cell_at" "_law_cell_at" (defArgs s__law_cell_at) (defBody s__law_cell_at) (defScope s__law_cell_at) .none kV8 dc8 pm8 an8 cd8 ct8), sl8⟩) (c8 : PySem.W.codeIn K cd8 "_law_cell_at" = true) (k8 : PySem.W.keepIn K (.ref f8) = true)
    {f9 : Addr} {od9 an9 : Option Addr} {sl9 : Array (Option Value)} {oc9 kV9 dc9 pm9 cd9 ct9 : Value}
    (a9 : PySem.W.nsIn K mainGlobals "_law_ref_by" = some (some (.ref f9))) (l9 : K.lookup f9 = some ⟨oc9, od9, .func (PySem.W.fnOf "_law_ref_by" "_law_ref_by" (defArgs s__law_ref_by) (defBody s__law_ref_by) (defScope s__law_ref_by) .none kV9 dc9 pm9 an9 cd9 ct9), sl9⟩) (c9 : PySem.W.codeIn K cd9 "_law_ref_by" = true) (k9 : PySem.W.keepIn K (.ref f9) = true)
    {f10 : Addr} {od10 an10 : Option Addr} {sl10 : Array (Option Value)} {oc10 kV10 dc10 pm10 cd10 ct10 : Value}
    (a10 : PySem.W.nsIn K mainGlobals "_law_leaf_by" = some (some (.ref f10))) (l10 : K.lookup f10 = some ⟨oc10, od10, .func (PySem.W.fnOf "_law_leaf_by" "_law_leaf_by" (defArgs s__law_leaf_by) (defBody s__law_leaf_by) (defScope s__law_leaf_by) .none kV10 dc10 pm10 an10 cd10 ct10), sl10⟩) (c10 : PySem.W.codeIn K cd10 "_law_leaf_by" = true) (k10 : PySem.W.keepIn K (.ref f10) = true)
    {f11 : Addr} {od11 an11 : Option Addr} {sl11 : Array (Option Value)} {oc11 kV11 dc11 pm11 cd11 ct11 : Value}
    (a11 : PySem.W.nsIn K mainGlobals "_law_inner" = some (some (.ref f11))) (l11 : K.lookup f11 = some ⟨oc11, od11, .func (PySem.W.fnOf "_law_inner" "_law_inner" (defArgs s__law_inner) (defBody s__law_inner) (defScope s__law_inner) .none kV11 dc11 pm11 an11 cd11 ct11), sl11⟩) (c11 : PySem.W.codeIn K cd11 "_law_inner" = true) (k11 : PySem.W.keepIn K (.ref f11) = true)
    {f12 : Addr} {od12 an12 : Option Addr} {sl12 : Array (Option Value)} {oc12 kV12 dc12 pm12 cd12 ct12 : Value}
    (a12 : PySem.W.nsIn K mainGlobals "_law_made_by" = some (some (.ref f12))) (l12 : K.lookup f12 = some ⟨oc12, od12, .func (PySem.W.fnOf "_law_made_by" "_law_made_by" (defArgs s__law_made_by) (defBody s__law_made_by) (defScope s__law_made_by) .none kV12 dc12 pm12 an12 cd12 ct12), sl12⟩) (c12 : PySem.W.codeIn K cd12 "_law_made_by" = true) (k12 : PySem.W.keepIn K (.ref f12) = true)
    {f13 : Addr} {od13 an13 : Option Addr} {sl13 : Array (Option Value)} {oc13 kV13 dc13 pm13 cd13 ct13 : Value}
    (a13 : PySem.W.nsIn K mainGlobals "_law_tree_by" = some (some (.ref f13))) (l13 : K.lookup f13 = some ⟨oc13, od13, .func (PySem.W.fnOf "_law_tree_by" "_law_tree_by" (defArgs s__law_tree_by) (defBody s__law_tree_by) (defScope s__law_tree_by) .none kV13 dc13 pm13 an13 cd13 ct13), sl13⟩) (c13 : PySem.W.codeIn K cd13 "_law_tree_by" = true) (k13 : PySem.W.keepIn K (.ref f13) = true)
    {f14 : Addr} {od14 an14 : Option Addr} {sl14 : Array (Option Value)} {oc14 kV14 dc14 pm14 cd14 ct14 : Value}
    (a14 : PySem.W.nsIn K mainGlobals "_law_deep" = some (some (.ref f14))) (l14 : K.lookup f14 = some ⟨oc14, od14, .func (PySem.W.fnOf "_law_deep" "_law_deep" (defArgs s__law_deep) (defBody s__law_deep) (defScope s__law_deep) .none kV14 dc14 pm14 an14 cd14 ct14), sl14⟩) (c14 : PySem.W.codeIn K cd14 "_law_deep" = true) (k14 : PySem.W.keepIn K (.ref f14) = true)
    {f15 : Addr} {od15 an15 : Option Addr} {sl15 : Array (Option Value)} {oc15 kV15 dc15 pm15 cd15 ct15 : Value}
    (a15 : PySem.W.nsIn K mainGlobals "_law_between" = some (some (.ref f15))) (l15 : K.lookup f15 = some ⟨oc15, od15, .func (PySem.W.fnOf "_law_between" "_law_between" (defArgs s__law_between) (defBody s__law_between) (defScope s__law_between) .none kV15 dc15 pm15 an15 cd15 ct15), sl15⟩) (c15 : PySem.W.codeIn K cd15 "_law_between" = true) (k15 : PySem.W.keepIn K (.ref f15) = true)
    {f16 : Addr} {od16 an16 : Option Addr} {sl16 : Array (Option Value)} {oc16 kV16 dc16 pm16 cd16 ct16 : Value}
    (a16 : PySem.W.nsIn K mainGlobals "_law_names" = some (some (.ref f16))) (l16 : K.lookup f16 = some ⟨oc16, od16, .func (PySem.W.fnOf "_law_names" "_law_names" (defArgs s__law_names) (defBody s__law_names) (defScope s__law_names) .none kV16 dc16 pm16 an16 cd16 ct16), sl16⟩) (c16 : PySem.W.codeIn K cd16 "_law_names" = true) (k16 : PySem.W.keepIn K (.ref f16) = true)
    {f17 : Addr} {od17 an17 : Option Addr} {sl17 : Array (Option Value)} {oc17 kV17 dc17 pm17 cd17 ct17 : Value}
    (a17 : PySem.W.nsIn K mainGlobals "_law_moved" = some (some (.ref f17))) (l17 : K.lookup f17 = some ⟨oc17, od17, .func (PySem.W.fnOf "_law_moved" "_law_moved" (defArgs s__law_moved) (defBody s__law_moved) (defScope s__law_moved) .none kV17 dc17 pm17 an17 cd17 ct17), sl17⟩) (c17 : PySem.W.codeIn K cd17 "_law_moved" = true) (k17 : PySem.W.keepIn K (.ref f17) = true)
    {f18 : Addr} {od18 an18 : Option Addr} {sl18 : Array (Option Value)} {oc18 kV18 dc18 pm18 cd18 ct18 : Value}
    (a18 : PySem.W.nsIn K mainGlobals "_law_right" = some (some (.ref f18))) (l18 : K.lookup f18 = some ⟨oc18, od18, .func (PySem.W.fnOf "_law_right" "_law_right" (defArgs s__law_right) (defBody s__law_right) (defScope s__law_right) .none kV18 dc18 pm18 an18 cd18 ct18), sl18⟩) (c18 : PySem.W.codeIn K cd18 "_law_right" = true) (k18 : PySem.W.keepIn K (.ref f18) = true)
    {f19 : Addr} {od19 an19 : Option Addr} {sl19 : Array (Option Value)} {oc19 kV19 dc19 pm19 cd19 ct19 : Value}
    (a19 : PySem.W.nsIn K mainGlobals "law" = some (some (.ref f19))) (l19 : K.lookup f19 = some ⟨oc19, od19, .func (PySem.W.fnOf "law" "law" (defArgs s_law) (defBody s_law) (defScope s_law) .none kV19 dc19 pm19 an19 cd19 ct19), sl19⟩) (c19 : PySem.W.codeIn K cd19 "law" = true) (k19 : PySem.W.keepIn K (.ref f19) = true)
    (z_bool : PySem.W.nsIn K mainGlobals "bool" = some none)
    (z_int : PySem.W.nsIn K mainGlobals "int" = some none)
    (z_isinstance : PySem.W.nsIn K mainGlobals "isinstance" = some none)
    (z_len : PySem.W.nsIn K mainGlobals "len" = some none)
    (z_list : PySem.W.nsIn K mainGlobals "list" = some none)
    (z_max : PySem.W.nsIn K mainGlobals "max" = some none)
    (z_min : PySem.W.nsIn K mainGlobals "min" = some none)
    (z_range : PySem.W.nsIn K mainGlobals "range" = some none)
    (z_sorted : PySem.W.nsIn K mainGlobals "sorted" = some none)
    (z_str : PySem.W.nsIn K mainGlobals "str" = some none)
    (z_tuple : PySem.W.nsIn K mainGlobals "tuple" = some none)
    {r0 : Addr} {es0 : Array DictEntry} {en0 : Nat} (ra0 : PySem.W.nsIn K mainGlobals "RULES_AT" = some (some (.ref r0))) (rl0 : K.lookup r0 = some ⟨.type "dict", none, .dict es0 en0, #[]⟩) (rk0 : PySem.W.KeysLit w.params es0.toList)
    {t0_num : Addr} {ti0_num : Array Value} {tn0_num : Nat} {td0_num : Option Addr} {ts0_num : Array (Option Value)} (te0_num : PySem.W.nsIn K r0 "num" = some (some (.ref t0_num))) (tl0_num : K.lookup t0_num = some ⟨.type "tuple", td0_num, .seq ti0_num tn0_num, ts0_num⟩) (tz0_num : ti0_num.size ≤ sizeLine) (tv0_num : Vals (([] : List Int).map V.int) ti0_num.toList)
    {t0_cell : Addr} {ti0_cell : Array Value} {tn0_cell : Nat} {td0_cell : Option Addr} {ts0_cell : Array (Option Value)} (te0_cell : PySem.W.nsIn K r0 "cell" = some (some (.ref t0_cell))) (tl0_cell : K.lookup t0_cell = some ⟨.type "tuple", td0_cell, .seq ti0_cell tn0_cell, ts0_cell⟩) (tz0_cell : ti0_cell.size ≤ sizeLine) (tv0_cell : Vals (([] : List Int).map V.int) ti0_cell.toList)
    {t0_add : Addr} {ti0_add : Array Value} {tn0_add : Nat} {td0_add : Option Addr} {ts0_add : Array (Option Value)} (te0_add : PySem.W.nsIn K r0 "add" = some (some (.ref t0_add))) (tl0_add : K.lookup t0_add = some ⟨.type "tuple", td0_add, .seq ti0_add tn0_add, ts0_add⟩) (tz0_add : ti0_add.size ≤ sizeLine) (tv0_add : Vals (([1, 2] : List Int).map V.int) ti0_add.toList)
    {t0_sub : Addr} {ti0_sub : Array Value} {tn0_sub : Nat} {td0_sub : Option Addr} {ts0_sub : Array (Option Value)} (te0_sub : PySem.W.nsIn K r0 "sub" = some (some (.ref t0_sub))) (tl0_sub : K.lookup t0_sub = some ⟨.type "tuple", td0_sub, .seq ti0_sub tn0_sub, ts0_sub⟩) (tz0_sub : ti0_sub.size ≤ sizeLine) (tv0_sub : Vals (([1, 2] : List Int).map V.int) ti0_sub.toList)
    {t0_mul : Addr} {ti0_mul : Array Value} {tn0_mul : Nat} {td0_mul : Option Addr} {ts0_mul : Array (Option Value)} (te0_mul : PySem.W.nsIn K r0 "mul" = some (some (.ref t0_mul))) (tl0_mul : K.lookup t0_mul = some ⟨.type "tuple", td0_mul, .seq ti0_mul tn0_mul, ts0_mul⟩) (tz0_mul : ti0_mul.size ≤ sizeLine) (tv0_mul : Vals (([1, 2] : List Int).map V.int) ti0_mul.toList)
    {t0_pick : Addr} {ti0_pick : Array Value} {tn0_pick : Nat} {td0_pick : Option Addr} {ts0_pick : Array (Option Value)} (te0_pick : PySem.W.nsIn K r0 "pick" = some (some (.ref t0_pick))) (tl0_pick : K.lookup t0_pick = some ⟨.type "tuple", td0_pick, .seq ti0_pick tn0_pick, ts0_pick⟩) (tz0_pick : ti0_pick.size ≤ sizeLine) (tv0_pick : Vals (([1, 2, 3] : List Int).map V.int) ti0_pick.toList)
    {t0_sum : Addr} {ti0_sum : Array Value} {tn0_sum : Nat} {td0_sum : Option Addr} {ts0_sum : Array (Option Value)} (te0_sum : PySem.W.nsIn K r0 "sum" = some (some (.ref t0_sum))) (tl0_sum : K.lookup t0_sum = some ⟨.type "tuple", td0_sum, .seq ti0_sum tn0_sum, ts0_sum⟩) (tz0_sum : ti0_sum.size ≤ sizeLine) (tv0_sum : Vals (([] : List Int).map V.int) ti0_sum.toList)
    {t0_most : Addr} {ti0_most : Array Value} {tn0_most : Nat} {td0_most : Option Addr} {ts0_most : Array (Option Value)} (te0_most : PySem.W.nsIn K r0 "most" = some (some (.ref t0_most))) (tl0_most : K.lookup t0_most = some ⟨.type "tuple", td0_most, .seq ti0_most tn0_most, ts0_most⟩) (tz0_most : ti0_most.size ≤ sizeLine) (tv0_most : Vals (([] : List Int).map V.int) ti0_most.toList)
    {t0_look : Addr} {ti0_look : Array Value} {tn0_look : Nat} {td0_look : Option Addr} {ts0_look : Array (Option Value)} (te0_look : PySem.W.nsIn K r0 "look" = some (some (.ref t0_look))) (tl0_look : K.lookup t0_look = some ⟨.type "tuple", td0_look, .seq ti0_look tn0_look, ts0_look⟩) (tz0_look : ti0_look.size ≤ sizeLine) (tv0_look : Vals (([1, 4] : List Int).map V.int) ti0_look.toList)
    {r1 : Addr} {es1 : Array DictEntry} {en1 : Nat} (ra1 : PySem.W.nsIn K mainGlobals "REFERENCES_AT" = some (some (.ref r1))) (rl1 : K.lookup r1 = some ⟨.type "dict", none, .dict es1 en1, #[]⟩) (rk1 : PySem.W.KeysLit w.params es1.toList)
    {t1_num : Addr} {ti1_num : Array Value} {tn1_num : Nat} {td1_num : Option Addr} {ts1_num : Array (Option Value)} (te1_num : PySem.W.nsIn K r1 "num" = some (some (.ref t1_num))) (tl1_num : K.lookup t1_num = some ⟨.type "tuple", td1_num, .seq ti1_num tn1_num, ts1_num⟩) (tz1_num : ti1_num.size ≤ sizeLine) (tv1_num : Vals (([] : List Int).map V.int) ti1_num.toList)
    {t1_cell : Addr} {ti1_cell : Array Value} {tn1_cell : Nat} {td1_cell : Option Addr} {ts1_cell : Array (Option Value)} (te1_cell : PySem.W.nsIn K r1 "cell" = some (some (.ref t1_cell))) (tl1_cell : K.lookup t1_cell = some ⟨.type "tuple", td1_cell, .seq ti1_cell tn1_cell, ts1_cell⟩) (tz1_cell : ti1_cell.size ≤ sizeLine) (tv1_cell : Vals (([1] : List Int).map V.int) ti1_cell.toList)
    {t1_add : Addr} {ti1_add : Array Value} {tn1_add : Nat} {td1_add : Option Addr} {ts1_add : Array (Option Value)} (te1_add : PySem.W.nsIn K r1 "add" = some (some (.ref t1_add))) (tl1_add : K.lookup t1_add = some ⟨.type "tuple", td1_add, .seq ti1_add tn1_add, ts1_add⟩) (tz1_add : ti1_add.size ≤ sizeLine) (tv1_add : Vals (([] : List Int).map V.int) ti1_add.toList)
    {t1_sub : Addr} {ti1_sub : Array Value} {tn1_sub : Nat} {td1_sub : Option Addr} {ts1_sub : Array (Option Value)} (te1_sub : PySem.W.nsIn K r1 "sub" = some (some (.ref t1_sub))) (tl1_sub : K.lookup t1_sub = some ⟨.type "tuple", td1_sub, .seq ti1_sub tn1_sub, ts1_sub⟩) (tz1_sub : ti1_sub.size ≤ sizeLine) (tv1_sub : Vals (([] : List Int).map V.int) ti1_sub.toList)
    {t1_mul : Addr} {ti1_mul : Array Value} {tn1_mul : Nat} {td1_mul : Option Addr} {ts1_mul : Array (Option Value)} (te1_mul : PySem.W.nsIn K r1 "mul" = some (some (.ref t1_mul))) (tl1_mul : K.lookup t1_mul = some ⟨.type "tuple", td1_mul, .seq ti1_mul tn1_mul, ts1_mul⟩) (tz1_mul : ti1_mul.size ≤ sizeLine) (tv1_mul : Vals (([] : List Int).map V.int) ti1_mul.toList)
    {t1_pick : Addr} {ti1_pick : Array Value} {tn1_pick : Nat} {td1_pick : Option Addr} {ts1_pick : Array (Option Value)} (te1_pick : PySem.W.nsIn K r1 "pick" = some (some (.ref t1_pick))) (tl1_pick : K.lookup t1_pick = some ⟨.type "tuple", td1_pick, .seq ti1_pick tn1_pick, ts1_pick⟩) (tz1_pick : ti1_pick.size ≤ sizeLine) (tv1_pick : Vals (([] : List Int).map V.int) ti1_pick.toList)
    {t1_sum : Addr} {ti1_sum : Array Value} {tn1_sum : Nat} {td1_sum : Option Addr} {ts1_sum : Array (Option Value)} (te1_sum : PySem.W.nsIn K r1 "sum" = some (some (.ref t1_sum))) (tl1_sum : K.lookup t1_sum = some ⟨.type "tuple", td1_sum, .seq ti1_sum tn1_sum, ts1_sum⟩) (tz1_sum : ti1_sum.size ≤ sizeLine) (tv1_sum : Vals (([1, 2] : List Int).map V.int) ti1_sum.toList)
    {t1_most : Addr} {ti1_most : Array Value} {tn1_most : Nat} {td1_most : Option Addr} {ts1_most : Array (Option Value)} (te1_most : PySem.W.nsIn K r1 "most" = some (some (.ref t1_most))) (tl1_most : K.lookup t1_most = some ⟨.type "tuple", td1_most, .seq ti1_most tn1_most, ts1_most⟩) (tz1_most : ti1_most.size ≤ sizeLine) (tv1_most : Vals (([1, 2] : List Int).map V.int) ti1_most.toList)
    {t1_look : Addr} {ti1_look : Array Value} {tn1_look : Nat} {td1_look : Option Addr} {ts1_look : Array (Option Value)} (te1_look : PySem.W.nsIn K r1 "look" = some (some (.ref t1_look))) (tl1_look : K.lookup t1_look = some ⟨.type "tuple", td1_look, .seq ti1_look tn1_look, ts1_look⟩) (tz1_look : ti1_look.size ≤ sizeLine) (tv1_look : Vals (([2, 3] : List Int).map V.int) ti1_look.toList)
    : ∃ fd : FuncData, (∀ (s : Shared) (v : Value), BindsTo s fd ⟨[v], []⟩ [("_law_script", v)]) ∧ ∀ base : Heap, K.In base → base.Ns mainGlobals mg → FnOk l.prog w K mg base CX0 42 fa fd ["_law_script"] (spLaw K) := by
  have e := hfa.symm.trans (PySem.W.mg_of X G a19)
  cases e
  refine ⟨PySem.W.fnOf "law" "law" (defArgs s_law) (defBody s_law) (defScope s_law) .none kV19 dc19 pm19 an19 cd19 ct19, fun s v => .of_eq rfl, fun base _ _ => ok_law ({
    a_area := _, d_area := _, F_area := fun_mk (st := s_area) l0 c0 k0, b_area := (fun_mk (st := s_area) l0 c0 k0).binds (ps := ["one", "two"]) fun _ _ _ _ _ _ us hl => match us, hl with | [_, _], _ => rfl, m_area := PySem.W.mg_of X G a0,
    a_inner_rules := _, d_inner_rules := _, F_inner_rules := fun_mk (st := s_inner_rules) l1 c1 k1, b_inner_rules := (fun_mk (st := s_inner_rules) l1 c1 k1).binds (ps := ["rule"]) fun _ _ _ _ _ _ us hl => match us, hl with | [_], _ => rfl, m_inner_rules := PySem.W.mg_of X G a1,
    a_references := _, d_references := _, F_references := fun_mk (st := s_references) l2 c2 k2, b_references := (fun_mk (st := s_references) l2 c2 k2).binds (ps := ["rule"]) fun _ _ _ _ _ _ us hl => match us, hl with | [_], _ => rfl, m_references := PySem.W.mg_of X G a2,
    a_outer_first := _, d_outer_first := _, F_outer_first := fun_mk (st := s_outer_first) l3 c3 k3, b_outer_first := (fun_mk (st := s_outer_first) l3 c3 k3).binds (ps := ["rule"]) fun _ _ _ _ _ _ us hl => match us, hl with | [_], _ => rfl, m_outer_first := PySem.W.mg_of X G a3,
    a_deep := _, d_deep := _, F_deep := fun_mk (st := s_deep) l4 c4 k4, b_deep := (fun_mk (st := s_deep) l4 c4 k4).binds (ps := ["rule"]) fun _ _ _ _ _ _ us hl => match us, hl with | [_], _ => rfl, m_deep := PySem.W.mg_of X G a4,
    a_named := _, d_named := _, F_named := fun_mk (st := s_named) l5 c5 k5, b_named := (fun_mk (st := s_named) l5 c5 k5).binds (ps := ["rule"]) fun _ _ _ _ _ _ us hl => match us, hl with | [_], _ => rfl, m_named := PySem.W.mg_of X G a5,
    a_needed := _, d_needed := _, F_needed := fun_mk (st := s_needed) l6 c6 k6, b_needed := (fun_mk (st := s_needed) l6 c6 k6).binds (ps := ["rule"]) fun _ _ _ _ _ _ us hl => match us, hl with | [_], _ => rfl, m_needed := PySem.W.mg_of X G a6,
    a__law_whole := _, d__law_whole := _, F__law_whole := fun_mk (st := s__law_whole) l7 c7 k7, b__law_whole := (fun_mk (st := s__law_whole) l7 c7 k7).binds (ps := ["_law_found"]) fun _ _ _ _ _ _ us hl => match us, hl with | [_], _ => rfl, m__law_whole := PySem.W.mg_of X G a7,
    a__law_cell_at := _, d__law_cell_at := _, F__law_cell_at := fun_mk (st := s__law_cell_at) l8 c8 k8, b__law_cell_at := (fun_mk (st := s__law_cell_at) l8 c8 k8).binds (ps := ["_law_script", "_law_k"]) fun _ _ _ _ _ _ us hl => match us, hl with | [_, _], _ => rfl, m__law_cell_at := PySem.W.mg_of X G a8,
    a__law_ref_by := _, d__law_ref_by := _, F__law_ref_by := fun_mk (st := s__law_ref_by) l9 c9 k9, b__law_ref_by := (fun_mk (st := s__law_ref_by) l9 c9 k9).binds (ps := ["_law_cell", "_law_high", "_law_wide"]) fun _ _ _ _ _ _ us hl => match us, hl with | [_, _, _], _ => rfl, m__law_ref_by := PySem.W.mg_of X G a9,
    a__law_leaf_by := _, d__law_leaf_by := _, F__law_leaf_by := fun_mk (st := s__law_leaf_by) l10 c10 k10, b__law_leaf_by := (fun_mk (st := s__law_leaf_by) l10 c10 k10).binds (ps := ["_law_cell", "_law_high", "_law_wide"]) fun _ _ _ _ _ _ us hl => match us, hl with | [_, _, _], _ => rfl, m__law_leaf_by := PySem.W.mg_of X G a10,
    a__law_inner := _, d__law_inner := _, F__law_inner := fun_mk (st := s__law_inner) l11 c11 k11, b__law_inner := (fun_mk (st := s__law_inner) l11 c11 k11).binds (ps := ["_law_rule"]) fun _ _ _ _ _ _ us hl => match us, hl with | [_], _ => rfl, m__law_inner := PySem.W.mg_of X G a11,
    a__law_made_by := _, d__law_made_by := _, F__law_made_by := fun_mk (st := s__law_made_by) l12 c12 k12, b__law_made_by := (fun_mk (st := s__law_made_by) l12 c12 k12).binds (ps := ["_law_stack", "_law_cell", "_law_high", "_law_wide"]) fun _ _ _ _ _ _ us hl => match us, hl with | [_, _, _, _], _ => rfl, m__law_made_by := PySem.W.mg_of X G a12,
    a__law_tree_by := _, d__law_tree_by := _, F__law_tree_by := fun_mk (st := s__law_tree_by) l13 c13 k13, b__law_tree_by := (fun_mk (st := s__law_tree_by) l13 c13 k13).binds (ps := ["_law_cells", "_law_high", "_law_wide"]) fun _ _ _ _ _ _ us hl => match us, hl with | [_, _, _], _ => rfl, m__law_tree_by := PySem.W.mg_of X G a13,
    a__law_deep := _, d__law_deep := _, F__law_deep := fun_mk (st := s__law_deep) l14 c14 k14, b__law_deep := (fun_mk (st := s__law_deep) l14 c14 k14).binds (ps := ["_law_rule"]) fun _ _ _ _ _ _ us hl => match us, hl with | [_], _ => rfl, m__law_deep := PySem.W.mg_of X G a14,
    a__law_between := _, d__law_between := _, F__law_between := fun_mk (st := s__law_between) l15 c15 k15, b__law_between := (fun_mk (st := s__law_between) l15 c15 k15).binds (ps := ["_law_one", "_law_two", "_law_place"]) fun _ _ _ _ _ _ us hl => match us, hl with | [_, _, _], _ => rfl, m__law_between := PySem.W.mg_of X G a15,
    a__law_names := _, d__law_names := _, F__law_names := fun_mk (st := s__law_names) l16 c16 k16, b__law_names := (fun_mk (st := s__law_names) l16 c16 k16).binds (ps := ["_law_rule", "_law_place"]) fun _ _ _ _ _ _ us hl => match us, hl with | [_, _], _ => rfl, m__law_names := PySem.W.mg_of X G a16,
    a__law_moved := _, d__law_moved := _, F__law_moved := fun_mk (st := s__law_moved) l17 c17 k17, b__law_moved := (fun_mk (st := s__law_moved) l17 c17 k17).binds (ps := ["_law_part", "_law_down", "_law_right_here"]) fun _ _ _ _ _ _ us hl => match us, hl with | [_, _, _], _ => rfl, m__law_moved := PySem.W.mg_of X G a17,
    a__law_right := _, d__law_right := _, F__law_right := fun_mk (st := s__law_right) l18 c18 k18, b__law_right := (fun_mk (st := s__law_right) l18 c18 k18).binds (ps := ["_law_rule", "_law_high", "_law_wide", "_law_away"]) fun _ _ _ _ _ _ us hl => match us, hl with | [_, _, _, _], _ => rfl, m__law_right := PySem.W.mg_of X G a18,
    a_law := _, d_law := _, F_law := fun_mk (st := s_law) l19 c19 k19, b_law := (fun_mk (st := s_law) l19 c19 k19).binds (ps := ["_law_script"]) fun _ _ _ _ _ _ us hl => match us, hl with | [_], _ => rfl, m_law := PySem.W.mg_of X G a19,
    z_bool := PySem.W.mg_none_of X G z_bool,
    z_int := PySem.W.mg_none_of X G z_int,
    z_isinstance := PySem.W.mg_none_of X G z_isinstance,
    z_len := PySem.W.mg_none_of X G z_len,
    z_list := PySem.W.mg_none_of X G z_list,
    z_max := PySem.W.mg_none_of X G z_max,
    z_min := PySem.W.mg_none_of X G z_min,
    z_range := PySem.W.mg_none_of X G z_range,
    z_sorted := PySem.W.mg_none_of X G z_sorted,
    z_str := PySem.W.mg_none_of X G z_str,
    z_tuple := PySem.W.mg_none_of X G z_tuple,
    r_RULES_AT := r0, m_RULES_AT := PySem.W.mg_of X G ra0,
    D_RULES_AT_num := dtab_mk rl0 rk0 te0_num tl0_num tz0_num tv0_num,
    D_RULES_AT_cell := dtab_mk rl0 rk0 te0_cell tl0_cell tz0_cell tv0_cell,
    D_RULES_AT_add := dtab_mk rl0 rk0 te0_add tl0_add tz0_add tv0_add,
    D_RULES_AT_sub := dtab_mk rl0 rk0 te0_sub tl0_sub tz0_sub tv0_sub,
    D_RULES_AT_mul := dtab_mk rl0 rk0 te0_mul tl0_mul tz0_mul tv0_mul,
    D_RULES_AT_pick := dtab_mk rl0 rk0 te0_pick tl0_pick tz0_pick tv0_pick,
    D_RULES_AT_sum := dtab_mk rl0 rk0 te0_sum tl0_sum tz0_sum tv0_sum,
    D_RULES_AT_most := dtab_mk rl0 rk0 te0_most tl0_most tz0_most tv0_most,
    D_RULES_AT_look := dtab_mk rl0 rk0 te0_look tl0_look tz0_look tv0_look,
    r_REFERENCES_AT := r1, m_REFERENCES_AT := PySem.W.mg_of X G ra1,
    D_REFERENCES_AT_num := dtab_mk rl1 rk1 te1_num tl1_num tz1_num tv1_num,
    D_REFERENCES_AT_cell := dtab_mk rl1 rk1 te1_cell tl1_cell tz1_cell tv1_cell,
    D_REFERENCES_AT_add := dtab_mk rl1 rk1 te1_add tl1_add tz1_add tv1_add,
    D_REFERENCES_AT_sub := dtab_mk rl1 rk1 te1_sub tl1_sub tz1_sub tv1_sub,
    D_REFERENCES_AT_mul := dtab_mk rl1 rk1 te1_mul tl1_mul tz1_mul tv1_mul,
    D_REFERENCES_AT_pick := dtab_mk rl1 rk1 te1_pick tl1_pick tz1_pick tv1_pick,
    D_REFERENCES_AT_sum := dtab_mk rl1 rk1 te1_sum tl1_sum tz1_sum tv1_sum,
    D_REFERENCES_AT_most := dtab_mk rl1 rk1 te1_most tl1_most tz1_most tv1_most,
    D_REFERENCES_AT_look := dtab_mk rl1 rk1 te1_look tl1_look tz1_look tv1_look } : Top K mg w)⟩
end K02
open PySem PySem.W PyProof.Rows
set_option maxRecDepth 100000 in
set_option maxHeartbeats 0 in
theorem PySem.Challenge.cw_rulesheet_k02_depth_and_needs_holds : PySem.Challenge.rw_rulesheet_k02_depth_and_needs.Holds := by
  w_on; o_law; k_head; (case hw => w_witness2)
  k_fill
  refine L2.walk_of (l := PySem.Challenge.rw_rulesheet_k02_depth_and_needs) (n := 63) (k := 42) (x := "_law_script") (CX := fun _ => L2.CX0) (sp := fun w => K02.spLaw _) rfl (by decide) rfl ⟨rfl, by decide, by decide⟩ (fun w h Y => PySem.W.kIn_of Y) ?F (fun _ H a ns hl _ hS => ⟨ns, .cons (.lst hS Pu.dpa_mkInts) .nil, hl, fun v H2 _ hv => Pu.dp_bl hv⟩) (fun _ _ _ _ _ h => h)
  case F =>
    intro w mg fa h KX G hmg
    refine' K02.all_mk KX G hmg ?a0 ?l0 ?c0 ?k0 ?a1 ?l1 ?c1 ?k1 ?a2 ?l2 ?c2 ?k2 ?a3 ?l3 ?c3 ?k3 ?a4 ?l4 ?c4 ?k4 ?a5 ?l5 ?c5 ?k5 ?a6 ?l6 ?c6 ?k6 ?a7 ?l7 ?c7 ?k7 ?a8 ?l8 ?c8 ?k8 ?a9 ?l9 ?c9 ?k9 ?a10 ?l10 ?c10 ?k10 ?a11 ?l11 ?c11 ?k11 ?a12 ?l12 ?c12 ?k12 ?a13 ?l13 ?c13 ?k13 ?a14 ?l14 ?c14 ?k14 ?a15 ?l15 ?c15 ?k15 ?a16 ?l16 ?c16 ?k16 ?a17 ?l17 ?c17 ?k17 ?a18 ?l18 ?c18 ?k18 ?a19 ?l19 ?c19 ?k19 ?z_bool ?z_int ?z_isinstance ?z_len ?z_list ?z_max ?z_min ?z_range ?z_sorted ?z_str ?z_tuple ?ra0 ?rl0 ?rk0 ?te0_num ?tl0_num ?tz0_num ?tv0_num ?te0_cell ?tl0_cell ?tz0_cell ?tv0_cell ?te0_add ?tl0_add ?tz0_add ?tv0_add ?te0_sub ?tl0_sub ?tz0_sub ?tv0_sub ?te0_mul ?tl0_mul ?tz0_mul ?tv0_mul ?te0_pick ?tl0_pick ?tz0_pick ?tv0_pick ?te0_sum ?tl0_sum ?tz0_sum ?tv0_sum ?te0_most ?tl0_most ?tz0_most ?tv0_most ?te0_look ?tl0_look ?tz0_look ?tv0_look ?ra1 ?rl1 ?rk1 ?te1_num ?tl1_num ?tz1_num ?tv1_num ?te1_cell ?tl1_cell ?tz1_cell ?tv1_cell ?te1_add ?tl1_add ?tz1_add ?tv1_add ?te1_sub ?tl1_sub ?tz1_sub ?tv1_sub ?te1_mul ?tl1_mul ?tz1_mul ?tv1_mul ?te1_pick ?tl1_pick ?tz1_pick ?tv1_pick ?te1_sum ?tl1_sum ?tz1_sum ?tv1_sum ?te1_most ?tl1_most ?tz1_most ?tv1_most ?te1_look ?tl1_look ?tz1_look ?tv1_look
    (case a0 => k_is)
    (case l0 => k_is)
    (case c0 => k_is)
    (case k0 => k_is)
    (case a1 => k_is)
    (case l1 => k_is)
    (case c1 => k_is)
    (case k1 => k_is)
    (case a2 => k_is)
    (case l2 => k_is)
    (case c2 => k_is)
    (case k2 => k_is)
    (case a3 => k_is)
    (case l3 => k_is)
    (case c3 => k_is)
    (case k3 => k_is)
    (case a4 => k_is)
    (case l4 => k_is)
    (case c4 => k_is)
    (case k4 => k_is)
    (case a5 => k_is)
    (case l5 => k_is)
    (case c5 => k_is)
    (case k5 => k_is)
    (case a6 => k_is)
    (case l6 => k_is)
    (case c6 => k_is)
    (case k6 => k_is)
    (case a7 => k_is)
    (case l7 => k_is)
    (case c7 => k_is)
    (case k7 => k_is)
    (case a8 => k_is)
    (case l8 => k_is)
    (case c8 => k_is)
    (case k8 => k_is)
    (case a9 => k_is)
    (case l9 => k_is)
    (case c9 => k_is)
    (case k9 => k_is)
    (case a10 => k_is)
    (case l10 => k_is)
    (case c10 => k_is)
    (case k10 => k_is)
    (case a11 => k_is)
    (case l11 => k_is)
    (case c11 => k_is)
    (case k11 => k_is)
    (case a12 => k_is)
    (case l12 => k_is)
    (case c12 => k_is)
    (case k12 => k_is)
    (case a13 => k_is)
    (case l13 => k_is)
    (case c13 => k_is)
    (case k13 => k_is)
    (case a14 => k_is)
    (case l14 => k_is)
    (case c14 => k_is)
    (case k14 => k_is)
    (case a15 => k_is)
    (case l15 => k_is)
    (case c15 => k_is)
    (case k15 => k_is)
    (case a16 => k_is)
    (case l16 => k_is)
    (case c16 => k_is)
    (case k16 => k_is)
    (case a17 => k_is)
    (case l17 => k_is)
    (case c17 => k_is)
    (case k17 => k_is)
    (case a18 => k_is)
    (case l18 => k_is)
    (case c18 => k_is)
    (case k18 => k_is)
    (case a19 => k_is)
    (case l19 => k_is)
    (case c19 => k_is)
    (case k19 => k_is)
    (case z_bool => k_is)
    (case z_int => k_is)
    (case z_isinstance => k_is)
    (case z_len => k_is)
    (case z_list => k_is)
    (case z_max => k_is)
    (case z_min => k_is)
    (case z_range => k_is)
    (case z_sorted => k_is)
    (case z_str => k_is)
    (case z_tuple => k_is)
    (case ra0 => k_is)
    (case rl0 => k_is)
    (case rk0 => k_keys)
    (case te0_num => k_is)
    (case tl0_num => k_is)
    (case tz0_num => exact Nat.le_of_ble_eq_true rfl)
    (case tv0_num => exact .nil)
    (case te0_cell => k_is)
    (case tl0_cell => k_is)
    (case tz0_cell => exact Nat.le_of_ble_eq_true rfl)
    (case tv0_cell => exact .nil)
    (case te0_add => k_is)
    (case tl0_add => k_is)
    (case tz0_add => exact Nat.le_of_ble_eq_true rfl)
    (case tv0_add => exact (.cons ⟨_, rfl⟩ (.cons ⟨_, rfl⟩ .nil)))
    (case te0_sub => k_is)
    (case tl0_sub => k_is)
    (case tz0_sub => exact Nat.le_of_ble_eq_true rfl)
    (case tv0_sub => exact (.cons ⟨_, rfl⟩ (.cons ⟨_, rfl⟩ .nil)))
    (case te0_mul => k_is)
    (case tl0_mul => k_is)
    (case tz0_mul => exact Nat.le_of_ble_eq_true rfl)
    (case tv0_mul => exact (.cons ⟨_, rfl⟩ (.cons ⟨_, rfl⟩ .nil)))
    (case te0_pick => k_is)
    (case tl0_pick => k_is)
    (case tz0_pick => exact Nat.le_of_ble_eq_true rfl)
    (case tv0_pick => exact (.cons ⟨_, rfl⟩ (.cons ⟨_, rfl⟩ (.cons ⟨_, rfl⟩ .nil))))
    (case te0_sum => k_is)
    (case tl0_sum => k_is)
    (case tz0_sum => exact Nat.le_of_ble_eq_true rfl)
    (case tv0_sum => exact .nil)
    (case te0_most => k_is)
    (case tl0_most => k_is)
    (case tz0_most => exact Nat.le_of_ble_eq_true rfl)
    (case tv0_most => exact .nil)
    (case te0_look => k_is)
    (case tl0_look => k_is)
    (case tz0_look => exact Nat.le_of_ble_eq_true rfl)
    (case tv0_look => exact (.cons ⟨_, rfl⟩ (.cons ⟨_, rfl⟩ .nil)))
    (case ra1 => k_is)
    (case rl1 => k_is)
    (case rk1 => k_keys)
    (case te1_num => k_is)
    (case tl1_num => k_is)
    (case tz1_num => exact Nat.le_of_ble_eq_true rfl)
    (case tv1_num => exact .nil)
    (case te1_cell => k_is)
    (case tl1_cell => k_is)
    (case tz1_cell => exact Nat.le_of_ble_eq_true rfl)
    (case tv1_cell => exact (.cons ⟨_, rfl⟩ .nil))
    (case te1_add => k_is)
    (case tl1_add => k_is)
    (case tz1_add => exact Nat.le_of_ble_eq_true rfl)
    (case tv1_add => exact .nil)
    (case te1_sub => k_is)
    (case tl1_sub => k_is)
    (case tz1_sub => exact Nat.le_of_ble_eq_true rfl)
    (case tv1_sub => exact .nil)
    (case te1_mul => k_is)
    (case tl1_mul => k_is)
    (case tz1_mul => exact Nat.le_of_ble_eq_true rfl)
    (case tv1_mul => exact .nil)
    (case te1_pick => k_is)
    (case tl1_pick => k_is)
    (case tz1_pick => exact Nat.le_of_ble_eq_true rfl)
    (case tv1_pick => exact .nil)
    (case te1_sum => k_is)
    (case tl1_sum => k_is)
    (case tz1_sum => exact Nat.le_of_ble_eq_true rfl)
    (case tv1_sum => exact (.cons ⟨_, rfl⟩ (.cons ⟨_, rfl⟩ .nil)))
    (case te1_most => k_is)
    (case tl1_most => k_is)
    (case tz1_most => exact Nat.le_of_ble_eq_true rfl)
    (case tv1_most => exact (.cons ⟨_, rfl⟩ (.cons ⟨_, rfl⟩ .nil)))
    (case te1_look => k_is)
    (case tl1_look => k_is)
    (case tz1_look => exact Nat.le_of_ble_eq_true rfl)
    (case tv1_look => exact (.cons ⟨_, rfl⟩ (.cons ⟨_, rfl⟩ .nil)))
