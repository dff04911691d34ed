import PyProof.Rows.All
import Wide.All
import OpenK.AllK
import Wide.FinOn
import HandS.ForMost
import HandS.Evl
import HandS.IsInst
import HandS.Sort
import HandS.Wide
import PyProof.LongRange
import HandS.Rev
import HandS.More
import HandS.TupSets
import HandS.SetBool
import HandS.DictComp
import HandS.ForExc
import HandS.Conv
import HandS.TupLen
import HandS.DictTup
import KE.KDictSum
import KE.KDictCopyH
import KE.KEqDict
import HandS.TryMany
import HandS.ExcIs
import HandS.RaiseMore
import HandS.FStr
import HandS.Deep
import KE.KDictOf
import KE.KSetDisp
import KE.GoesSet
import KE.KDictDisplayH
import KE.GoesComp
import PySem.Challenge.RW_rulesheet_k06_copied_and_filled
set_option Elab.async false
set_option linter.all false
set_option maxRecDepth 100000
set_option maxHeartbeats 4000000
/-! own layer: values as plain data, locals as a row of data, lists that a def keeps to itself -/
namespace Pu
open PySem PySem.Spec L2 Evl

/-! ### heaps -/
/-- G is what is shared; what H has beside it is private; behind H2: the shared part -/
def grow (G H H2 : Hp) : Hp := fun a => match G a, H a with
  | none, some _ => none
  | _, _ => H2 a
def hide (p : Addr) (G : Hp) : Hp := fun a => if a = p then none else G a
theorem grow_priv {G H H2 : Hp} {a : Addr} {o : HO} (h1 : G a = none) (h2 : H a = some o) : grow G H H2 a = none := by
  unfold grow
  rw [h1, h2]
theorem grow_pub {G H H2 : Hp} {a : Addr} {o : HO} (h1 : G a = some o) : grow G H H2 a = H2 a := by
  unfold grow
  rw [h1]
theorem grow_new {G H H2 : Hp} {a : Addr} (h1 : H a = none) : grow G H H2 a = H2 a := by
  unfold grow
  rw [h1]
  cases G a <;> rfl
theorem ex_grow {G H H2 : Hp} (e : Ex G H) (e2 : Ex H H2) : Ex G (grow G H H2) := fun a o h => by
  rw [grow_pub h]
  exact e2 a o (e a o h)
theorem grow_ex {G H H2 : Hp} : Ex (grow G H H2) H2 := fun a o h => by
  unfold grow at h
  split at h
  · cases h
  · exact h
theorem grow_mono {G H H2 H3 : Hp} (e : Ex H2 H3) : Ex (grow G H H2) (grow G H H3) := fun a o h => by
  unfold grow at h ⊢
  split at h
  · cases h
  · exact e a o h
theorem grow_self {G H : Hp} (e : Ex G H) : grow G H H = G := by
  funext a
  unfold grow
  cases hg : G a with
  | none =>
    cases hh : H a with
    | none => rfl
    | some o => rfl
  | some o =>
    show H a = some o
    exact e a o hg
theorem grow_grow {G H H1 H2 : Hp} (e : Ex H H1) : grow (grow G H H1) H1 H2 = grow G H H2 := by
  funext a
  unfold grow
  cases hg : G a with
  | none =>
    cases hh : H a with
    | none =>
      cases h1 : H1 a with
      | none => rfl
      | some o => rfl
    | some o =>
      have := e a o hh
      rw [this]
  | some o =>
    cases h1 : H1 a with
    | none => rfl
    | some o => rfl
theorem hide_ex {p : Addr} {G : Hp} : Ex (hide p G) G := fun a o h => by
  unfold hide at h
  split at h
  · cases h
  · exact h
theorem hide_self {p : Addr} {G : Hp} : hide p G p = none := by
  unfold hide
  rw [if_pos rfl]
theorem hide_ne {p a : Addr} {G : Hp} (h : a ≠ p) : hide p G a = G a := by
  unfold hide
  rw [if_neg h]
theorem hide_mono {p : Addr} {G G' : Hp} (e : Ex G G') : Ex (hide p G) (hide p G') := fun a o h => by
  by_cases hp : a = p
  · rw [hp, hide_self] at h
    cases h
  · rw [hide_ne hp] at h ⊢
    exact e a o h
theorem ex_hide {p : Addr} {G G' : Hp} (e : Ex G G') (h : G p = none) : Ex G (hide p G') := fun a o q => by
  have hp : a ≠ p := fun z => by
    rw [z, h] at q
    cases q
  rw [hide_ne hp]
  exact e a o q

/-! ### data -/
mutual
def imm : PyData → Bool
  | .list _ => false
  | .dict _ => false
  | .tuple ds => immAll ds
  | _ => true
def immAll : List PyData → Bool
  | [] => true
  | d :: ds => imm d && immAll ds
end
section
variable {K : PySem.W.Frag} {H H' : Hp}
mutual
theorem dp_ex (e : Ex H H') : ∀ (d : PyData) (v : V), Dp K H v d → Dp K H' v d
  | .none, _, h => by cases h; exact .non
  | .bool b, _, h => by cases h; exact .bl b
  | .int i, _, h => by cases h; exact .int i
  | .str x, _, h => by cases h; exact .str x
  | .list ds, _, h => by
    cases h with
    | lst hs ha => exact .lst (ex_l e hs) (dpa_ex e ds _ ha)
  | .tuple ds, _, h => by
    cases h with
    | tup hs ha => exact .tup (ex_t e hs) (dpa_ex e ds _ ha)
  | .dict _, _, h => by cases h
theorem dpa_ex (e : Ex H H') : ∀ (ds : List PyData) (vs : List V), DpAll K H vs ds → DpAll K H' vs ds
  | [], _, h => by cases h; exact .nil
  | d :: ds, _, h => by
    cases h with
    | cons h1 h2 => exact .cons (dp_ex e d _ h1) (dpa_ex e ds _ h2)
end
theorem _root_.L2.Dp.up {v : V} {d : PyData} (h : Dp K H v d) (e : Ex H H') : Dp K H' v d := dp_ex e d v h
theorem _root_.L2.DpAll.up {vs : List V} {ds : List PyData} (h : DpAll K H vs ds) (e : Ex H H') : DpAll K H' vs ds := dpa_ex e ds vs h
/-- every tuple stays -/
def ExT (K : PySem.W.Frag) (H H' : Hp) : Prop := ∀ a xs, SqT K H a xs → SqT K H' a xs
mutual
theorem dp_imm (e : ExT K H H') : ∀ (d : PyData) (v : V), imm d = true → Dp K H v d → Dp K H' v d
  | .none, _, _, h => by cases h; exact .non
  | .bool b, _, _, h => by cases h; exact .bl b
  | .int i, _, _, h => by cases h; exact .int i
  | .str x, _, _, h => by cases h; exact .str x
  | .list ds, _, hi, h => by
    unfold imm at hi
    cases hi
  | .tuple ds, _, hi, h => by
    cases h with
    | tup hs ha =>
      refine .tup (e _ _ hs) (dpa_imm e ds _ ?_ ha)
      unfold imm at hi
      exact hi
  | .dict _, _, _, h => by cases h
theorem dpa_imm (e : ExT K H H') : ∀ (ds : List PyData) (vs : List V), immAll ds = true → DpAll K H vs ds → DpAll K H' vs ds
  | [], _, _, h => by cases h; exact .nil
  | d :: ds, _, hi, h => by
    unfold immAll at hi
    obtain ⟨i1, i2⟩ := Bool.and_eq_true_iff.mp hi
    cases h with
    | cons h1 h2 => exact .cons (dp_imm e d _ i1 h1) (dpa_imm e ds _ i2 h2)
end
/-- what is shared keeps its tuples, if what is private are lists -/
theorem exT_of {G : Hp} (h : ∀ a xs, Rd H a (.tup xs) → Rd G a (.tup xs)) : ExT K H G := fun a xs q => by
  rcases q with q | q
  · exact .inl (h a xs q)
  · exact .inr q
theorem dpa_len {vs : List V} {ds : List PyData} (h : DpAll K H vs ds) : vs.length = ds.length := by
  induction ds generalizing vs with
  | nil => cases h; rfl
  | cons d ds ih =>
    cases h with
    | cons h1 h2 => rw [List.length_cons, List.length_cons, ih h2]
theorem dpa_at : ∀ {ds : List PyData} {vs : List V} {i : Nat} {d : PyData}, DpAll K H vs ds → ds[i]? = some d → ∃ v, vs[i]? = some v ∧ Dp K H v d
  | [], _, _, _, _, hi => by simp at hi
  | d' :: ds, _, 0, d, h, hi => by
    cases h with
    | cons h1 h2 =>
      have e : d' = d := by simpa using hi
      subst e
      exact ⟨_, rfl, h1⟩
  | d' :: ds, _, i + 1, d, h, hi => by
    cases h with
    | cons h1 h2 =>
      obtain ⟨v, q, r⟩ := dpa_at (i := i) h2 (by simpa using hi)
      exact ⟨v, by simpa using q, r⟩
theorem dpa_at' {vs : List V} {ds : List PyData} {i : Nat} {v : V} (h : DpAll K H vs ds) (hi : vs[i]? = some v) : ∃ d, ds[i]? = some d ∧ Dp K H v d := by
  have hl : i < vs.length := (List.getElem?_eq_some_iff.mp hi).1
  rw [dpa_len h] at hl
  obtain ⟨v', e, q⟩ := dpa_at h (List.getElem?_eq_getElem hl)
  rw [hi] at e
  cases e
  exact ⟨_, List.getElem?_eq_getElem hl, q⟩
theorem dpa_ix {vs : List V} {ds : List PyData} {i : Int} {d : PyData} (h : DpAll K H vs ds) (hi : atI ds i = some d) : ∃ v, atI vs i = some v ∧ Dp K H v d := by
  unfold atI at hi ⊢
  rw [dpa_len h]
  cases hx : ixN ds.length i with
  | none =>
    rw [hx] at hi
    cases hi
  | some j =>
    rw [hx] at hi
    exact dpa_at h hi
theorem dpa_app {vs ws : List V} {ds es : List PyData} (h : DpAll K H vs ds) (h' : DpAll K H ws es) : DpAll K H (vs ++ ws) (ds ++ es) := by
  induction ds generalizing vs with
  | nil => cases h; exact h'
  | cons d ds ih =>
    cases h with
    | cons h1 h2 => exact .cons h1 (ih h2)
theorem dpa_snoc {vs : List V} {v : V} {ds : List PyData} {d : PyData} (h : DpAll K H vs ds) (h' : Dp K H v d) : DpAll K H (vs ++ [v]) (ds ++ [d]) := dpa_app h (.cons h' .nil)
theorem dpa_take {vs : List V} {ds : List PyData} (n : Nat) (h : DpAll K H vs ds) : DpAll K H (vs.take n) (ds.take n) := by
  induction ds generalizing vs n with
  | nil => cases h; rw [List.take_nil, List.take_nil]; exact .nil
  | cons d ds ih =>
    cases h with
    | cons h1 h2 =>
      cases n with
      | zero => exact .nil
      | succ n => exact .cons h1 (ih n h2)
theorem dpa_drop {vs : List V} {ds : List PyData} (n : Nat) (h : DpAll K H vs ds) : DpAll K H (vs.drop n) (ds.drop n) := by
  induction ds generalizing vs n with
  | nil => cases h; rw [List.drop_nil, List.drop_nil]; exact .nil
  | cons d ds ih =>
    cases h with
    | cons h1 h2 =>
      cases n with
      | zero => exact .cons h1 h2
      | succ n => exact ih n h2
theorem dpa_set {vs : List V} {v : V} {ds : List PyData} {d : PyData} (n : Nat) (h : DpAll K H vs ds) (h' : Dp K H v d) : DpAll K H (vs.set n v) (ds.set n d) := by
  induction ds generalizing vs n with
  | nil => cases h; exact .nil
  | cons d' ds ih =>
    cases h with
    | cons h1 h2 =>
      cases n with
      | zero => exact .cons h' h2
      | succ n => exact .cons h1 (ih n h2)
theorem dpa_dropLast {vs : List V} {ds : List PyData} (h : DpAll K H vs ds) : DpAll K H vs.dropLast ds.dropLast := by
  rw [List.dropLast_eq_take, List.dropLast_eq_take, dpa_len h]
  exact dpa_take _ h
theorem dpa_rev {vs : List V} {ds : List PyData} (h : DpAll K H vs ds) : DpAll K H vs.reverse ds.reverse := by
  induction ds generalizing vs with
  | nil => cases h; exact .nil
  | cons d ds ih =>
    cases h with
    | cons h1 h2 =>
      rw [List.reverse_cons, List.reverse_cons]
      exact dpa_snoc (ih h2) h1
end

/-! ### the locals of a def as data -/
inductive Ent where
  | no
  | dat (d : PyData)
  /-- a list that nobody else knows -/
  | own (ds : List PyData)
  | rng (lo hi : Int)
abbrev Es := List Ent
/-- what may be private: no tuple, nothing locked -/
def NT : HO → Prop
  | .tup _ => False
  | .frz _ _ => False
  | _ => True
structure SE (K : PySem.W.Frag) (G H : Hp) (σ : St) (es : Es) : Prop where
  ex : Ex G H
  len : es.length = σ.length
  dat : ∀ (i : Nat) (d : PyData), es[i]? = some (Ent.dat d) → ∃ v, σ[i]? = some (some v) ∧ Dp K G v d
  own : ∀ (i : Nat) (ds : List PyData), es[i]? = some (Ent.own ds) → ∃ p xs, σ[i]? = some (some (V.ref p)) ∧ G p = none ∧ H p = some (.lst xs) ∧ DpAll K G xs ds
  inj : ∀ (i j : Nat) (ds ds' : List PyData) (p : Addr), es[i]? = some (Ent.own ds) → es[j]? = some (Ent.own ds') → σ[i]? = some (some (V.ref p)) → σ[j]? = some (some (V.ref p)) → i = j
  rng : ∀ (i : Nat) (lo hi : Int), es[i]? = some (Ent.rng lo hi) → ∃ p, σ[i]? = some (some (V.ref p)) ∧ G p = some (.rng lo hi)
  prv : ∀ a o, G a = none → H a = some o → NT o
section
variable {K : PySem.W.Frag} {G G' H H1 H2 : Hp} {σ : St} {es : Es}
/-- another split of a grown heap -/
theorem SE.re (S : SE K G H σ es) (eg : Ex G G') (e : Ex G' H1) (eh : Ex H H1) (hp : ∀ p xs, G p = none → H p = some (.lst xs) → G' p = none) (pv : ∀ a o, G' a = none → H1 a = some o → NT o) : SE K G' H1 σ es where
  prv := pv
  ex := e
  len := S.len
  dat := fun i d h => by
    obtain ⟨v, a, b⟩ := S.dat i d h
    exact ⟨v, a, b.up eg⟩
  own := fun i ds h => by
    obtain ⟨p, xs, a, b, c, d⟩ := S.own i ds h
    exact ⟨p, xs, a, hp p xs b c, eh _ _ c, d.up eg⟩
  inj := S.inj
  rng := fun i lo hi h => by
    obtain ⟨p, a, b⟩ := S.rng i lo hi h
    exact ⟨p, a, eg _ _ b⟩
theorem prv_grow (pv : ∀ a o, G a = none → H a = some o → NT o) (e : Ex H H2) : ∀ a o, Pu.grow G H H2 a = none → H2 a = some o → NT o := fun a o h1 h2 => by
  cases hg : G a with
  | some u =>
    rw [grow_pub hg, h2] at h1
    cases h1
  | none =>
    cases hh : H a with
    | none =>
      rw [grow_new hh, h2] at h1
      cases h1
    | some u =>
      have := e a u hh
      rw [h2] at this
      cases this
      exact pv a _ hg hh
theorem SE.grow (S : SE K G H σ es) (e : Ex H H2) : SE K (Pu.grow G H H2) H2 σ es := S.re (ex_grow S.ex e) grow_ex e (fun _ _ h1 h2 => grow_priv h1 h2) (prv_grow S.prv e)
theorem set_get {α : Type} {l : List α} {i j : Nat} {x y : α} (h : (l.set i x)[j]? = some y) : (j = i ∧ y = x ∧ i < l.length) ∨ (j ≠ i ∧ l[j]? = some y) := by
  by_cases e : j = i
  · subst e
    rw [List.getElem?_set] at h
    rw [if_pos rfl] at h
    split at h
    · cases h
      rename_i hl
      exact .inl ⟨rfl, rfl, hl⟩
    · cases h
  · rw [List.getElem?_set_ne (Ne.symm e)] at h
    exact .inr ⟨e, h⟩
theorem get_set {α : Type} {l : List α} {i : Nat} {x : α} (h : i < l.length) : (l.set i x)[i]? = some x := by
  rw [List.getElem?_set_self h]
theorem get_set_ne {α : Type} {l : List α} {i j : Nat} {x : α} (h : j ≠ i) : (l.set i x)[j]? = l[j]? := List.getElem?_set_ne (Ne.symm h)
/-- a slot takes another value -/
theorem SE.put (S : SE K G H σ es) (i : Nat) (v : Option V) (en : Ent) (hd : ∀ d, en = .dat d → ∃ x, v = some x ∧ Dp K G x d)
    (ho : ∀ ds, en = .own ds → ∃ p xs, v = some (.ref p) ∧ G p = none ∧ H p = some (.lst xs) ∧ DpAll K G xs ds ∧ ∀ (j : Nat) (ds' : List PyData), j ≠ i → es[j]? = some (Ent.own ds') → σ[j]? ≠ some (some (V.ref p)))
    (hr : ∀ lo hi, en = .rng lo hi → ∃ p, v = some (.ref p) ∧ G p = some (.rng lo hi)) : SE K G H (σ.set i v) (es.set i en) where
  prv := S.prv
  ex := S.ex
  len := by rw [List.length_set, List.length_set]; exact S.len
  dat := fun j d h => by
    rcases set_get h with ⟨e, e2, e3⟩ | ⟨e, h⟩
    · obtain ⟨x, q, r⟩ := hd d e2.symm
      subst e
      refine ⟨x, ?_, r⟩
      rw [get_set (by rw [← S.len]; exact e3), q]
    · obtain ⟨x, q, r⟩ := S.dat j d h
      exact ⟨x, by rw [get_set_ne e]; exact q, r⟩
  own := fun j ds h => by
    rcases set_get h with ⟨e, e2, e3⟩ | ⟨e, h⟩
    · obtain ⟨p, xs, q, r, s, t, _⟩ := ho ds e2.symm
      subst e
      exact ⟨p, xs, by rw [get_set (by rw [← S.len]; exact e3), q], r, s, t⟩
    · obtain ⟨p, xs, q, r⟩ := S.own j ds h
      exact ⟨p, xs, by rw [get_set_ne e]; exact q, r⟩
  inj := fun a b ds ds' p ha hb va vb => by
    rcases set_get ha with ⟨e, e2, e3⟩ | ⟨e, ha'⟩
    · rcases set_get hb with ⟨f, f2, f3⟩ | ⟨f, hb'⟩
      · rw [e, f]
      · exfalso
        obtain ⟨p', xs, q, _, _, _, no⟩ := ho ds e2.symm
        subst e
        rw [get_set (by rw [← S.len]; exact e3), q] at va
        cases va
        rw [get_set_ne f] at vb
        exact no b ds' f hb' vb
    · rcases set_get hb with ⟨f, f2, f3⟩ | ⟨f, hb'⟩
      · exfalso
        obtain ⟨p', xs, q, _, _, _, no⟩ := ho ds' f2.symm
        subst f
        rw [get_set (by rw [← S.len]; exact f3), q] at vb
        cases vb
        rw [get_set_ne e] at va
        exact no a ds e ha' va
      · rw [get_set_ne e] at va
        rw [get_set_ne f] at vb
        exact S.inj a b ds ds' p ha' hb' va vb
  rng := fun j lo hi h => by
    rcases set_get h with ⟨e, e2, e3⟩ | ⟨e, h⟩
    · obtain ⟨p, q, r⟩ := hr lo hi e2.symm
      subst e
      exact ⟨p, by rw [get_set (by rw [← S.len]; exact e3), q], r⟩
    · obtain ⟨p, q, r⟩ := S.rng j lo hi h
      exact ⟨p, by rw [get_set_ne e]; exact q, r⟩
theorem SE.putDat (S : SE K G H σ es) (i : Nat) {v : V} {d : PyData} (h : Dp K G v d) : SE K G H (σ.set i (some v)) (es.set i (.dat d)) :=
  S.put i _ _ (fun d' e => by cases e; exact ⟨v, rfl, h⟩) (fun _ e => nomatch e) (fun _ _ e => nomatch e)
theorem SE.putNo (S : SE K G H σ es) (i : Nat) (v : Option V) : SE K G H (σ.set i v) (es.set i .no) := S.put i _ _ (fun d' e => nomatch e) (fun _ e => nomatch e) (fun _ _ e => nomatch e)
theorem SE.putRng (S : SE K G H σ es) (i : Nat) {p : Addr} {lo hi : Int} (h : G p = some (.rng lo hi)) : SE K G H (σ.set i (some (.ref p))) (es.set i (.rng lo hi)) :=
  S.put i _ _ (fun d' e => nomatch e) (fun _ e => nomatch e) (fun _ _ e => by cases e; exact ⟨p, rfl, h⟩)
/-- a new list of one's own: it was free ahead of H -/
theorem SE.putOwn (S : SE K G H σ es) (i : Nat) {p : Addr} {xs : List V} {ds : List PyData} (e : Ex H H2) (hn : H p = none) (hp : H2 p = some (.lst xs)) (hd : DpAll K (hide p (Pu.grow G H H2)) xs ds) :
    SE K (hide p (Pu.grow G H H2)) H2 (σ.set i (some (.ref p))) (es.set i (.own ds)) := by
  have gp : G p = none := by
    cases q : G p with
    | none => rfl
    | some o =>
      rw [S.ex p o q] at hn
      cases hn
  have S2 : SE K (hide p (Pu.grow G H H2)) H2 σ es := S.re (ex_hide (ex_grow S.ex e) gp) (hide_ex.trans grow_ex) e (fun q xs h1 h2 => by
    by_cases z : q = p
    · rw [z, hide_self]
    · rw [hide_ne z, grow_priv h1 h2]) (fun a o h1 h2 => by
    by_cases z : a = p
    · rw [z, hp] at h2
      cases h2
      trivial
    · rw [hide_ne z] at h1
      exact prv_grow S.prv e a o h1 h2)
  refine S2.put i _ _ (fun d' e => nomatch e) (fun ds' e' => ?_) (fun _ _ e => nomatch e)
  cases e'
  refine ⟨p, xs, rfl, hide_self, hp, hd, fun j ds' _ hj z => ?_⟩
  obtain ⟨p', xs', q, _, r, _⟩ := S.own j ds' hj
  rw [z] at q
  cases q
  rw [hn] at r
  cases r
/-- a list of one's own changes -/
theorem SE.write (S : SE K G H σ es) {i : Nat} {p : Addr} {xs : List V} {ds ds' : List PyData} (hi : es[i]? = some (Ent.own ds)) (hv : σ[i]? = some (some (V.ref p))) (hd : DpAll K G xs ds') :
    SE K G (upd H p (.lst xs)) σ (es.set i (.own ds')) := by
  obtain ⟨p0, xs0, q0, gp, hp0, _⟩ := S.own i ds hi
  rw [hv] at q0
  cases q0
  have hi' : i < es.length := (List.getElem?_eq_some_iff.mp hi).1
  refine ⟨fun a o h => ?_, by rw [List.length_set]; exact S.len, fun j d h => ?_, fun j ds2 h => ?_, fun a b d1 d2 q ha hb va vb => ?_, fun j lo hi2 h => ?_, fun a o h1 h2 => ?_⟩
  · rw [upd_ne (ne_of_none h gp)]
    exact S.ex a o h
  · rcases set_get h with ⟨e, e2, e3⟩ | ⟨e, h⟩
    · cases e2
    · exact S.dat j d h
  · rcases set_get h with ⟨e, e2, e3⟩ | ⟨e, h⟩
    · cases e2
      subst e
      exact ⟨p, xs, hv, gp, upd_same, hd⟩
    · obtain ⟨p', xs', q, r, t, u⟩ := S.own j ds2 h
      refine ⟨p', xs', q, r, ?_, u⟩
      have ne : p' ≠ p := fun z => by
        subst z
        exact e (S.inj j i _ _ _ h hi q hv)
      rw [upd_ne ne]
      exact t
  · have old : ∀ {c : Nat} {d : List PyData}, (es.set i (.own ds'))[c]? = some (Ent.own d) → ∃ d', es[c]? = some (Ent.own d') := fun {c d} h => by
      rcases set_get h with ⟨e, _, _⟩ | ⟨e, h⟩
      · exact ⟨ds, by rw [e]; exact hi⟩
      · exact ⟨d, h⟩
    obtain ⟨d1', ha⟩ := old ha
    obtain ⟨d2', hb⟩ := old hb
    exact S.inj a b _ _ _ ha hb va vb
  · rcases set_get h with ⟨e, e2, e3⟩ | ⟨e, h⟩
    · cases e2
    · exact S.rng j lo hi2 h
  · by_cases z : a = p
    · rw [z, upd_same] at h2
      cases h2
      trivial
    · rw [upd_ne z] at h2
      exact S.prv a o h1 h2
/-- the slots of a comprehension's own names -/
def wipeE (es : Es) : List Nat → Es
  | [] => es
  | v :: vs => (wipeE es vs).set v .no
theorem SE.wipe (S : SE K G H σ es) : ∀ vs : List Nat, SE K G H (L2.wipe σ vs) (wipeE es vs)
  | [] => S
  | v :: vs => (S.wipe vs).putNo v none
/-- a list of one's own is shared from here on -/
theorem SE.share (S : SE K G H σ es) {i : Nat} {ds : List PyData} (hi : es[i]? = some (Ent.own ds)) : ∃ G', Ex G G' ∧ SE K G' H σ (es.set i (.dat (.list ds))) := by
  obtain ⟨p, xs, hv, gp, hp, hd⟩ := S.own i ds hi
  have hi' : i < es.length := (List.getElem?_eq_some_iff.mp hi).1
  refine ⟨upd G p (.lst xs), Ex.new gp, fun a o h => ?_, by rw [List.length_set]; exact S.len, fun j d h => ?_, fun j ds2 h => ?_, fun a b d1 d2 q ha hb va vb => ?_, fun j lo hi2 h => ?_, fun a o h1 h2 => ?_⟩
  · by_cases z : a = p
    · subst z
      rw [upd_same] at h
      cases h
      exact hp
    · rw [upd_ne z] at h
      exact S.ex a o h
  · rcases set_get h with ⟨e, e2, e3⟩ | ⟨e, h⟩
    · cases e2
      subst e
      exact ⟨.ref p, hv, .lst (.inl (.inl upd_same)) (hd.up (Ex.new gp))⟩
    · obtain ⟨v, q, r⟩ := S.dat j d h
      exact ⟨v, q, r.up (Ex.new gp)⟩
  · rcases set_get h with ⟨e, e2, e3⟩ | ⟨e, h⟩
    · cases e2
    · obtain ⟨p', xs', q, r, t, u⟩ := S.own j ds2 h
      have ne : p' ≠ p := fun z => by
        subst z
        exact e (S.inj j i _ _ _ h hi q hv)
      exact ⟨p', xs', q, by rw [upd_ne ne]; exact r, t, u.up (Ex.new gp)⟩
  · have old : ∀ {c : Nat} {d : List PyData}, (es.set i (.dat (.list ds)))[c]? = some (Ent.own d) → es[c]? = some (Ent.own d) := fun {c d} h => by
      rcases set_get h with ⟨e, e2, _⟩ | ⟨e, h⟩
      · cases e2
      · exact h
    exact S.inj a b _ _ _ (old ha) (old hb) va vb
  · rcases set_get h with ⟨e, e2, e3⟩ | ⟨e, h⟩
    · cases e2
    · obtain ⟨p', q, r⟩ := S.rng j lo hi2 h
      exact ⟨p', q, (Ex.new gp) _ _ r⟩
  · by_cases z : a = p
    · rw [z, upd_same] at h1
      cases h1
    · rw [upd_ne z] at h1
      exact S.prv a o h1 h2
end
end Pu

namespace Pu
open PySem PySem.Spec L2 Evl

/-! ### what expressions give -/
section
variable (K : PySem.W.Frag)
/-- shared data | data that may hang on a private list | a new list -/
structure EvE (te : TE) (es : Es) (d : PyData) : Prop where
  run : ∀ {G H : Hp} {σ : L2.St}, SE K G H σ es → ∀ {H1 : Hp}, Ex H H1 → ∀ {Q : VK}, (∀ v H2, Ex H1 H2 → Dp K (grow G H H2) v d → Q v H2) → te σ H1 Q
structure EvX (te : TE) (es : Es) (d : PyData) : Prop where
  run : ∀ {G H : Hp} {σ : L2.St}, SE K G H σ es → ∀ {H1 : Hp}, Ex H H1 → ∀ {Q : VK}, (∀ v H2, Ex H1 H2 → Dp K H2 v d → Q v H2) → te σ H1 Q
structure EvF (te : TE) (es : Es) (ds : List PyData) : Prop where
  run : ∀ {G H : Hp} {σ : L2.St}, SE K G H σ es → ∀ {H1 : Hp}, Ex H H1 → ∀ {Q : VK}, (∀ p xs H2, H1 p = none → Ex H1 H2 → H2 p = some (.lst xs) → DpAll K (hide p (grow G H H2)) xs ds → Q (.ref p) H2) → te σ H1 Q
structure EvB (tt : TT) (es : Es) (b : Bool) : Prop where
  run : ∀ {G H : Hp} {σ : L2.St}, SE K G H σ es → ∀ {H1 : Hp}, Ex H H1 → ∀ {Q : Bool → Hp → Prop}, (∀ H2, Ex H1 H2 → Q b H2) → tt σ H1 Q
/-- arguments: weak, strong -/
structure EvA (ta : TA) (es : Es) (ds : List PyData) : Prop where
  run : ∀ {G H : Hp} {σ : L2.St}, SE K G H σ es → ∀ {H1 : Hp}, Ex H H1 → ∀ {Q : List V → Hp → Prop}, (∀ vs H2, Ex H1 H2 → DpAll K H2 vs ds → Q vs H2) → ta σ H1 Q
structure EvS (ta : TA) (es : Es) (ds : List PyData) : Prop where
  run : ∀ {G H : Hp} {σ : L2.St}, SE K G H σ es → ∀ {H1 : Hp}, Ex H H1 → ∀ {Q : List V → Hp → Prop}, (∀ vs H2, Ex H1 H2 → DpAll K (grow G H H2) vs ds → Q vs H2) → ta σ H1 Q
/-- a slice's bound -/
structure EvO (to : TO) (es : Es) (o : Option Int) : Prop where
  run : ∀ {G H : Hp} {σ : L2.St}, SE K G H σ es → ∀ {H1 : Hp}, Ex H H1 → ∀ {Q : Option Int → Hp → Prop}, (∀ H2, Ex H1 H2 → Q o H2) → to σ H1 Q
end
/-- a scalar as data -/
def scD : V → PyData
  | .bl b => .bool b
  | .int i => .int i
  | .str s => .str s
  | _ => .none
section
variable {K : PySem.W.Frag} {es : Es} {ta tb tc : TE} {t u : TT} {d e : PyData} {ds : List PyData}
theorem ev_weak (h : EvE K ta es d) : EvX K ta es d := .mk fun {_ _ _} S {_} e1 {_} q => h.1 S e1 fun v H2 e2 hd => q v H2 e2 (hd.up grow_ex)
theorem ev_fresh (h : EvF K ta es ds) : EvE K ta es (.list ds) := .mk fun {G H σ} S {H1} e1 {Q} q => h.1 S e1 fun p xs H2 n e2 hp hd => q _ _ e2 (.lst (.inl (.inl (by
  have hn : H p = none := fresh_back e1 n
  rw [grow_new hn]
  exact hp))) (hd.up hide_ex))
theorem ev_var {i : Nat} (h : es[i]? = some (Ent.dat d)) : EvE K (tVar i) es d := .mk fun {G H σ} S {H1} e1 {Q} q => by
  obtain ⟨v, hv, hd⟩ := S.dat i d h
  exact ⟨v, hv, q v H1 (Ex.refl _) (hd.up (ex_grow S.ex e1))⟩
theorem ev_varO {i : Nat} (h : es[i]? = some (Ent.own ds)) : EvX K (tVar i) es (.list ds) := .mk fun {G H σ} S {H1} e1 {Q} q => by
  obtain ⟨p, xs, hv, gp, hp, hd⟩ := S.own i ds h
  exact ⟨_, hv, q _ H1 (Ex.refl _) (.lst (.inl (.inl (e1 _ _ hp))) (hd.up (S.ex.trans e1)))⟩
theorem ev_int {i : Int} : EvE K (tC (.int i)) es (.int i) := .mk fun {_ _ _} S {_} _ {_} q => q _ _ (Ex.refl _) (.int i)
theorem ev_bl {b : Bool} : EvE K (tC (.bl b)) es (.bool b) := .mk fun {_ _ _} S {_} _ {_} q => q _ _ (Ex.refl _) (.bl b)
theorem ev_str {x : Str} : EvE K (tC (.str x)) es (.str x) := .mk fun {_ _ _} S {_} _ {_} q => q _ _ (Ex.refl _) (.str x)
theorem ev_non : EvE K (tC .non) es .none := .mk fun {_ _ _} S {_} _ {_} q => q _ _ (Ex.refl _) .non
/-- a value of the module that is known -/
theorem ev_glob {v : V} (h : Dp K (fun _ => none) v d) : EvE K (tC v) es d := .mk fun {_ _ _} S {_} _ {_} q => q _ _ (Ex.refl _) (h.up fun _ _ z => nomatch z)
theorem ev_is {d' : PyData} (h : EvE K ta es d) (e : d = d') : EvE K ta es d' := e ▸ h
theorem ev_isX {d' : PyData} (h : EvX K ta es d) (e : d = d') : EvX K ta es d' := e ▸ h
theorem ev_isF {ds' : List PyData} (h : EvF K ta es ds) (e : ds = ds') : EvF K ta es ds' := e ▸ h
theorem eb_is {b c : Bool} (h : EvB K t es b) (e : b = c) : EvB K t es c := e ▸ h
theorem dp_int {H : Hp} {v : V} {i : Int} (h : Dp K H v (.int i)) : v = .int i := by cases h; rfl
theorem dp_bl {H : Hp} {v : V} {b : Bool} (h : Dp K H v (.bool b)) : v = .bl b := by cases h; rfl
theorem dp_str {H : Hp} {v : V} {x : Str} (h : Dp K H v (.str x)) : v = .str x := by cases h; rfl
theorem dp_non {H : Hp} {v : V} (h : Dp K H v .none) : v = .non := by cases h; rfl
theorem dp_lst {H : Hp} {v : V} (h : Dp K H v (.list ds)) : ∃ p xs, v = .ref p ∧ SqL K H p xs ∧ DpAll K H xs ds := by
  cases h with
  | lst a b => exact ⟨_, _, rfl, a, b⟩
theorem dp_tup {H : Hp} {v : V} (h : Dp K H v (.tuple ds)) : ∃ p xs, v = .ref p ∧ SqT K H p xs ∧ DpAll K H xs ds := by
  cases h with
  | tup a b => exact ⟨_, _, rfl, a, b⟩
theorem dpa_nil {H : Hp} {vs : List V} (h : DpAll K H vs []) : vs = [] := by cases h; rfl
theorem dpa_cons {H : Hp} {vs : List V} (h : DpAll K H vs (d :: ds)) : ∃ v r, vs = v :: r ∧ Dp K H v d ∧ DpAll K H r ds := by
  cases h with
  | cons a b => exact ⟨_, _, rfl, a, b⟩
theorem dpa_one {H : Hp} {vs : List V} (h : DpAll K H vs [d]) : ∃ v, vs = [v] ∧ Dp K H v d := by
  obtain ⟨v, r, rfl, a, b⟩ := dpa_cons h
  rw [dpa_nil b]
  exact ⟨v, rfl, a⟩
theorem dpa_two {H : Hp} {vs : List V} (h : DpAll K H vs [d, e]) : ∃ v w, vs = [v, w] ∧ Dp K H v d ∧ Dp K H w e := by
  obtain ⟨v, r, rfl, a, b⟩ := dpa_cons h
  obtain ⟨w, rfl, c⟩ := dpa_one b
  exact ⟨v, w, rfl, a, c⟩
/-! operators on values -/
theorem ev_op2 {r : R2} {z : PyData} (ha : EvX K ta es d) (hb : EvX K tb es e) (hr : ∀ x y H, Dp K H x d → Dp K H y e → ∀ Q : VK, (∀ v, (∀ G, Dp K G v z) → Q v H) → r x y H Q) : EvE K (tOp r ta tb) es z := .mk fun {G H σ} S {H1} e1 {Q} q =>
  ha.1 S e1 fun x H2 e2 hx => hb.1 S (e1.trans e2) fun y H3 e3 hy => hr x y H3 (hx.up e3) hy Q fun v hv => q v H3 (e2.trans e3) (hv _)
theorem ev_I0 {g : Int → Int → V} {i j k : Int} (ha : EvX K ta es (.int i)) (hb : EvX K tb es (.int j)) (hg : g i j = .int k) : EvE K (tOp (rI0 g) ta tb) es (.int k) :=
  ev_op2 ha hb fun x y H hx hy Q q => ⟨i, j, dp_int hx, dp_int hy, by rw [hg]; exact q _ fun _ => .int k⟩
theorem ev_I0b {g : Int → Int → V} {i j : Int} {b : Bool} (ha : EvX K ta es (.int i)) (hb : EvX K tb es (.int j)) (hg : g i j = .bl b) : EvE K (tOp (rI0 g) ta tb) es (.bool b) :=
  ev_op2 ha hb fun x y H hx hy Q q => ⟨i, j, dp_int hx, dp_int hy, by rw [hg]; exact q _ fun _ => .bl b⟩
theorem ev_I {C : Int → Int → Prop} {g : Int → Int → V} {i j k : Int} (ha : EvX K ta es (.int i)) (hb : EvX K tb es (.int j)) (hg : g i j = .int k) (hc : C i j) : EvE K (tOp (rI C g) ta tb) es (.int k) :=
  ev_op2 ha hb fun x y H hx hy Q q => ⟨i, j, dp_int hx, dp_int hy, hc, by rw [hg]; exact q _ fun _ => .int k⟩
theorem ev_neg {i : Int} {g : Int → V} {k : Int} (ha : EvX K ta es (.int i)) (hg : g i = .int k) : EvE K (tUn (rU g) ta) es (.int k) := .mk fun {G H σ} S {H1} e1 {Q} q =>
  ha.1 S e1 fun x H2 e2 hx => ⟨i, dp_int hx, by rw [hg]; exact q _ H2 e2 (.int k)⟩
theorem ev_eqI {i j : Int} (ha : EvX K ta es (.int i)) (hb : EvX K tb es (.int j)) : EvE K (tOp rEq ta tb) es (.bool (decide (i = j))) :=
  ev_op2 ha hb fun x y H hx hy Q q => by
    rw [dp_int hx, dp_int hy]
    refine ⟨rfl, ?_⟩
    have e : decide (V.int i = V.int j) = decide (i = j) := by
      by_cases h : i = j
      · rw [h, decide_eq_true rfl, decide_eq_true rfl]
      · rw [decide_eq_false h, decide_eq_false fun z => h (V.int.inj z)]
    rw [e]
    exact q _ fun _ => .bl _
theorem ev_eqS {i j : Str} (ha : EvX K ta es (.str i)) (hb : EvX K tb es (.str j)) : EvE K (tOp rEq ta tb) es (.bool (decide (i = j))) :=
  ev_op2 ha hb fun x y H hx hy Q q => by
    rw [dp_str hx, dp_str hy]
    refine ⟨rfl, ?_⟩
    have e : decide (V.str i = V.str j) = decide (i = j) := by
      by_cases h : i = j
      · rw [h, decide_eq_true rfl, decide_eq_true rfl]
      · rw [decide_eq_false h, decide_eq_false fun z => h (V.str.inj z)]
    rw [e]
    exact q _ fun _ => .bl _
theorem ev_eqB {i j : Bool} (ha : EvX K ta es (.bool i)) (hb : EvX K tb es (.bool j)) : EvE K (tOp rEq ta tb) es (.bool (decide (i = j))) :=
  ev_op2 ha hb fun x y H hx hy Q q => by
    rw [dp_bl hx, dp_bl hy]
    refine ⟨rfl, ?_⟩
    have e : decide (V.bl i = V.bl j) = decide (i = j) := by
      by_cases h : i = j
      · rw [h, decide_eq_true rfl, decide_eq_true rfl]
      · rw [decide_eq_false h, decide_eq_false fun z => h (V.bl.inj z)]
    rw [e]
    exact q _ fun _ => .bl _
theorem ev_neI {i j : Int} (ha : EvX K ta es (.int i)) (hb : EvX K tb es (.int j)) : EvE K (tOp rNe ta tb) es (.bool (!decide (i = j))) :=
  ev_op2 ha hb fun x y H hx hy Q q => by
    rw [dp_int hx, dp_int hy]
    refine ⟨rfl, ?_⟩
    have e : decide (V.int i = V.int j) = decide (i = j) := by
      by_cases h : i = j
      · rw [h, decide_eq_true rfl, decide_eq_true rfl]
      · rw [decide_eq_false h, decide_eq_false fun z => h (V.int.inj z)]
    rw [e]
    exact q _ fun _ => .bl _
theorem ev_neS {i j : Str} (ha : EvX K ta es (.str i)) (hb : EvX K tb es (.str j)) : EvE K (tOp rNe ta tb) es (.bool (!decide (i = j))) :=
  ev_op2 ha hb fun x y H hx hy Q q => by
    rw [dp_str hx, dp_str hy]
    refine ⟨rfl, ?_⟩
    have e : decide (V.str i = V.str j) = decide (i = j) := by
      by_cases h : i = j
      · rw [h, decide_eq_true rfl, decide_eq_true rfl]
      · rw [decide_eq_false h, decide_eq_false fun z => h (V.str.inj z)]
    rw [e]
    exact q _ fun _ => .bl _
theorem ev_eqD (ha : EvX K ta es d) (hb : EvX K tb es e) (s1 : SeqAt.shaped d = true) (s2 : SeqAt.shaped e = true) : EvE K (tOp (rEqD K) ta tb) es (.bool (PyData.eqv d e)) :=
  ev_op2 ha hb fun x y H hx hy Q q => ⟨d, e, hx, hy, s1, s2, q _ fun _ => .bl _⟩
theorem ev_neD (ha : EvX K ta es d) (hb : EvX K tb es e) (s1 : SeqAt.shaped d = true) (s2 : SeqAt.shaped e = true) : EvE K (tOp (rNeD K) ta tb) es (.bool (!PyData.eqv d e)) :=
  ev_op2 ha hb fun x y H hx hy Q q => ⟨d, e, hx, hy, s1, s2, q _ fun _ => .bl _⟩
/-! items -/
theorem ev_ixT {i : Int} (ha : EvE K ta es (.tuple ds)) (hb : EvX K tb es (.int i)) (hi : atI ds i = some d) : EvE K (tOp (rIxT K) ta tb) es d := .mk fun {G H σ} S {H1} e1 {Q} q =>
  ha.1 S e1 fun x H2 e2 hx => hb.1 S (e1.trans e2) fun y H3 e3 hy => by
    obtain ⟨p, xs, rfl, hs, hd⟩ := dp_tup (hx.up (grow_mono e3))
    obtain ⟨v, hv, hdv⟩ := dpa_ix hd hi
    exact ⟨p, xs, i, v, rfl, dp_int hy, ex_t grow_ex hs, hv, q v H3 (e2.trans e3) hdv⟩
theorem ev_ixL {i : Int} (ha : EvE K ta es (.list ds)) (hb : EvX K tb es (.int i)) (hi : atI ds i = some d) : EvE K (tOp (rIxL K) ta tb) es d := .mk fun {G H σ} S {H1} e1 {Q} q =>
  ha.1 S e1 fun x H2 e2 hx => hb.1 S (e1.trans e2) fun y H3 e3 hy => by
    obtain ⟨p, xs, rfl, hs, hd⟩ := dp_lst (hx.up (grow_mono e3))
    obtain ⟨v, hv, hdv⟩ := dpa_ix hd hi
    exact ⟨p, xs, i, v, rfl, dp_int hy, ex_l grow_ex hs, hv, q v H3 (e2.trans e3) hdv⟩
theorem ev_ixO {k : Nat} {i : Int} (ha : es[k]? = some (Ent.own ds)) (hb : EvX K tb es (.int i)) (hi : atI ds i = some d) : EvE K (tOp (rIxL K) (tVar k) tb) es d := .mk fun {G H σ} S {H1} e1 {Q} q => by
  obtain ⟨p, xs, hv, gp, hp, hd⟩ := S.own k ds ha
  refine ⟨_, hv, hb.1 S e1 fun y H3 e3 hy => ?_⟩
  obtain ⟨v, hv, hdv⟩ := dpa_ix hd hi
  exact ⟨p, xs, i, v, rfl, dp_int hy, .inl (.inl (e3 _ _ (e1 _ _ hp))), hv, q v H3 e3 (hdv.up (ex_grow S.ex (e1.trans e3)))⟩
/-! arguments, displays -/
theorem ea_nil : EvA K tNil es [] := .mk fun {_ _ _} S {_} _ {_} q => q _ _ (Ex.refl _) .nil
theorem ea_cons {tr : TA} (h : EvX K ta es d) (hr : EvA K tr es ds) : EvA K (tCons ta tr) es (d :: ds) := .mk fun {_ _ _} S {_} e1 {_} q =>
  h.1 S e1 fun x H2 e2 hx => hr.1 S (e1.trans e2) fun xs H3 e3 hxs => q _ _ (e2.trans e3) (.cons (hx.up e3) hxs)
theorem es_nil : EvS K tNil es [] := .mk fun {_ _ _} S {_} _ {_} q => q _ _ (Ex.refl _) .nil
theorem es_cons {tr : TA} (h : EvE K ta es d) (hr : EvS K tr es ds) : EvS K (tCons ta tr) es (d :: ds) := .mk fun {_ _ _} S {_} e1 {_} q =>
  h.1 S e1 fun x H2 e2 hx => hr.1 S (e1.trans e2) fun xs H3 e3 hxs => q _ _ (e2.trans e3) (.cons (hx.up (grow_mono e3)) hxs)
theorem ev_tup {t : TA} (h : EvS K t es ds) (hl : ds.length ≤ 100000) : EvE K (tTup t) es (.tuple ds) := .mk fun {G H σ} S {H1} e1 {Q} q =>
  h.1 S e1 fun xs H2 e2 hx => ⟨sz_of (by rw [dpa_len hx]; exact hl), fun p hp => q _ _ (e2.trans (Ex.new hp)) (.tup (.inl (.inl (by
    rw [grow_new (fresh_back (e1.trans e2) hp)]
    exact upd_same))) (hx.up (grow_mono (Ex.new hp))))⟩
theorem grow_none {G H H2 : Hp} {p : Addr} (h : H2 p = none) : grow G H H2 p = none := by
  cases q : grow G H H2 p with
  | none => rfl
  | some o =>
    rw [grow_ex _ _ q] at h
    cases h
theorem ef_lst {t : TA} (h : EvS K t es ds) (hl : ds.length ≤ 100000) : EvF K (tLst t) es ds := .mk fun {G H σ} S {H1} e1 {Q} q =>
  h.1 S e1 fun xs H2 e2 hx => ⟨sz_of (by rw [dpa_len hx]; exact hl), fun p hp => q p xs _ (fresh_back e2 hp) (e2.trans (Ex.new hp)) upd_same
    (hx.up (ex_hide (grow_mono (Ex.new hp)) (grow_none hp)))⟩
/-! slices -/
theorem eo_none : EvO K tNoPart es none := .mk fun {_ _ _} S {_} _ {_} q => q _ (Ex.refl _)
theorem eo_some {i : Int} (h : EvX K ta es (.int i)) : EvO K (tPart ta) es (some i) := .mk fun {_ _ _} S {_} e1 {_} q => h.1 S e1 fun x H2 e2 hx => ⟨i, dp_int hx, q H2 e2⟩
def cutD (ds : List PyData) (lo hi : Option Int) : List PyData := (ds.drop (HT.sIx ds.length 0 lo)).take (HT.sIx ds.length ds.length hi - HT.sIx ds.length 0 lo)
theorem dpa_cut {H : Hp} {xs : List V} {lo hi : Option Int} (h : DpAll K H xs ds) : DpAll K H (cutV xs lo hi) (cutD ds lo hi) := by
  unfold cutV cutD
  rw [dpa_len h]
  exact dpa_take _ (dpa_drop _ h)
theorem ev_slT {tl th : TO} {lo hi : Option Int} (ha : EvE K ta es (.tuple ds)) (hl : EvO K tl es lo) (hh : EvO K th es hi) (hn : ¬ (HT.sIx ds.length 0 lo = 0 ∧ HT.sIx ds.length ds.length hi = ds.length)) :
    EvE K (tSl (rSlT K) ta tl th) es (.tuple (cutD ds lo hi)) := .mk fun {G H σ} S {H1} e1 {Q} q =>
  ha.1 S e1 fun x H2 e2 hx => hl.1 S (e1.trans e2) fun H3 e3 => hh.1 S ((e1.trans e2).trans e3) fun H4 e4 => by
    obtain ⟨p, xs, rfl, hs, hd⟩ := dp_tup (hx.up (grow_mono (e3.trans e4)))
    refine ⟨p, xs, rfl, ex_t grow_ex hs, by rw [dpa_len hd]; exact hn, fun r hr => q _ _ (((e2.trans e3).trans e4).trans (Ex.new hr)) (.tup (.inl (.inl ?_)) ((dpa_cut hd).up (grow_mono (Ex.new hr))))⟩
    rw [grow_new (fresh_back (((e1.trans e2).trans e3).trans e4) hr)]
    exact upd_same
theorem ef_slL {tl th : TO} {lo hi : Option Int} (ha : EvE K ta es (.list ds)) (hl : EvO K tl es lo) (hh : EvO K th es hi) : EvF K (tSl (rSlL K) ta tl th) es (cutD ds lo hi) := .mk fun {G H σ} S {H1} e1 {Q} q =>
  ha.1 S e1 fun x H2 e2 hx => hl.1 S (e1.trans e2) fun H3 e3 => hh.1 S ((e1.trans e2).trans e3) fun H4 e4 => by
    obtain ⟨p, xs, rfl, hs, hd⟩ := dp_lst (hx.up (grow_mono (e3.trans e4)))
    exact ⟨p, xs, rfl, ex_l grow_ex hs, fun r hr => q r _ _ (fresh_back ((e2.trans e3).trans e4) hr) (((e2.trans e3).trans e4).trans (Ex.new hr)) upd_same
      ((dpa_cut hd).up (ex_hide (grow_mono (Ex.new hr)) (grow_none hr)))⟩
theorem ef_slO {k : Nat} {tl th : TO} {lo hi : Option Int} (ha : es[k]? = some (Ent.own ds)) (hl : EvO K tl es lo) (hh : EvO K th es hi) : EvF K (tSl (rSlL K) (tVar k) tl th) es (cutD ds lo hi) := .mk fun {G H σ} S {H1} e1 {Q} q => by
  obtain ⟨p, xs, hv, gp, hp, hd⟩ := S.own k ds ha
  refine ⟨_, hv, hl.1 S e1 fun H3 e3 => hh.1 S (e1.trans e3) fun H4 e4 => ?_⟩
  exact ⟨p, xs, rfl, .inl (.inl (e4 _ _ (e3 _ _ (e1 _ _ hp)))), fun r hr => q r _ _ (fresh_back (e3.trans e4) hr) ((e3.trans e4).trans (Ex.new hr)) upd_same
    ((dpa_cut hd).up (ex_hide (ex_grow S.ex (((e1.trans e3).trans e4).trans (Ex.new hr))) (fresh_back (((S.ex.trans e1).trans e3).trans e4) hr)))⟩
/-! calls of built-ins -/
theorem ev_cb1 {r : List V → Hp → VK → Prop} {z : PyData} (ha : EvX K ta es d) (hr : ∀ x H, Dp K H x d → ∀ Q : VK, (∀ v, (∀ G, Dp K G v z) → Q v H) → r [x] H Q) : EvE K (tCB r (tCons ta tNil)) es z := .mk fun {G H σ} S {H1} e1 {Q} q =>
  ha.1 S e1 fun x H2 e2 hx => hr x H2 hx Q fun v hv => q v H2 e2 (hv _)
theorem ev_cb2 {r : List V → Hp → VK → Prop} {z : PyData} (ha : EvX K ta es d) (hb : EvX K tb es e) (hr : ∀ x y H, Dp K H x d → Dp K H y e → ∀ Q : VK, (∀ v, (∀ G, Dp K G v z) → Q v H) → r [x, y] H Q) : EvE K (tCB r (tCons ta (tCons tb tNil))) es z := .mk fun {G H σ} S {H1} e1 {Q} q =>
  ha.1 S e1 fun x H2 e2 hx => hb.1 S (e1.trans e2) fun y H3 e3 hy => hr x y H3 (hx.up e3) hy Q fun v hv => q v H3 (e2.trans e3) (hv _)
theorem ev_lenL (ha : EvX K ta es (.list ds)) : EvE K (tCB (rLenS K) (tCons ta tNil)) es (.int (ds.length : Int)) := ev_cb1 ha fun x H hx Q q => by
  obtain ⟨p, xs, rfl, hs, hd⟩ := dp_lst hx
  refine ⟨p, xs, rfl, .inl hs, ?_⟩
  rw [dpa_len hd]
  exact q _ fun _ => .int _
theorem ev_lenT (ha : EvX K ta es (.tuple ds)) : EvE K (tCB (rLenS K) (tCons ta tNil)) es (.int (ds.length : Int)) := ev_cb1 ha fun x H hx Q q => by
  obtain ⟨p, xs, rfl, hs, hd⟩ := dp_tup hx
  refine ⟨p, xs, rfl, .inr hs, ?_⟩
  rw [dpa_len hd]
  exact q _ fun _ => .int _
def rMin2 : List V → Hp → VK → Prop := fun xs H Q => ∃ i j, xs = [.int i, .int j] ∧ Q (.int (if j < i then j else i)) H
theorem ev_min2 {i j : Int} (ha : EvX K ta es (.int i)) (hb : EvX K tb es (.int j)) : EvE K (tCB rMin2 (tCons ta (tCons tb tNil))) es (.int (min i j)) := ev_cb2 ha hb fun x y H hx hy Q q => by
  refine ⟨i, j, by rw [dp_int hx, dp_int hy], ?_⟩
  rw [show (if j < i then j else i) = min i j by split <;> omega]
  exact q _ fun _ => .int _
theorem ev_max2 {i j : Int} (ha : EvX K ta es (.int i)) (hb : EvX K tb es (.int j)) : EvE K (tCB rMax2 (tCons ta (tCons tb tNil))) es (.int (max i j)) := ev_cb2 ha hb fun x y H hx hy Q q => by
  refine ⟨i, j, by rw [dp_int hx, dp_int hy], ?_⟩
  rw [show (if j > i then j else i) = max i j by split <;> omega]
  exact q _ fun _ => .int _
theorem dpa_ints {H : Hp} : ∀ {ns : List Int} {xs : List V}, DpAll K H xs (ns.map PyData.int) → xs = ns.map V.int
  | [], _, h => dpa_nil h
  | n :: ns, _, h => by
    obtain ⟨v, r, rfl, a, b⟩ := dpa_cons h
    rw [dp_int a, dpa_ints b]
    rfl
theorem ev_minL {ns : List Int} {m : Int} (ha : EvX K ta es (.list (ns.map PyData.int))) (hm : m ∈ ns) (hle : ∀ y ∈ ns, m ≤ y) : EvE K (tCB (rMin K) (tCons ta tNil)) es (.int m) := ev_cb1 ha fun x H hx Q q => by
  obtain ⟨p, xs, rfl, hs, hd⟩ := dp_lst hx
  rw [dpa_ints (xs := xs) hd] at hs
  refine ⟨p, ns, rfl, hs, List.length_pos_of_mem hm, fun k hk hk' => ?_⟩
  have e : k = m := by
    have h1 := hk' m hm
    have h2 := hle k hk
    omega
  rw [e]
  exact q _ fun _ => .int _
theorem ev_maxL {ns : List Int} {m : Int} (ha : EvX K ta es (.list (ns.map PyData.int))) (hm : m ∈ ns) (hle : ∀ y ∈ ns, y ≤ m) : EvE K (tCB (rMax K) (tCons ta tNil)) es (.int m) := ev_cb1 ha fun x H hx Q q => by
  obtain ⟨p, xs, rfl, hs, hd⟩ := dp_lst hx
  rw [dpa_ints (xs := xs) hd] at hs
  refine ⟨p, ns, rfl, hs, List.length_pos_of_mem hm, fun k hk hk' => ?_⟩
  have e : k = m := by
    have h1 := hk' m hm
    have h2 := hle k hk
    omega
  rw [e]
  exact q _ fun _ => .int _
def tyName : PyData → String
  | .none => "NoneType"
  | .bool _ => "bool"
  | .int _ => "int"
  | .str _ => "str"
  | .list _ => "list"
  | .tuple _ => "tuple"
  | .dict _ => "dict"
theorem tyX_of {H : Hp} {v : V} (h : Dp K H v d) : TyX K H v (.type (tyName d)) := by
  cases h with
  | non => exact .base .non
  | bl b => exact .base (.bl b)
  | int i => exact .base (.int i)
  | str x => exact .base (.str x)
  | lst hs _ =>
    rcases hs with (hs | ⟨o, hs⟩) | ⟨o, its, n, h1, h2, _⟩
    · exact .base (.lst hs)
    · exact .base (.frz hs)
    · exact .kList h1 h2
  | tup hs _ =>
    rcases hs with (hs | ⟨o, hs⟩) | ⟨o, its, n, h1, h2, _⟩
    · exact .base (.tup hs)
    · exact .fTuple hs
    · exact .kTuple h1 h2
theorem ev_isi {n : String} {b : Bool} (ha : EvX K ta es d) (hb : kitB (tyName d) n = some b) : EvE K (tCB (rIsi K) (tCons ta (tCons (tC (.ty n)) tNil))) es (.bool b) := .mk fun {G H σ} S {H1} e1 {Q} q =>
  ha.1 S e1 fun x H2 e2 hx => ⟨x, .ty n, _, _, b, rfl, .ty n, tyX_of hx, kit_ty hb, q _ H2 e2 (.bl b)⟩
def rInt1 : List V → Hp → VK → Prop := fun xs H Q => (∃ i, xs = [.int i] ∧ Q (.int i) H) ∨ ∃ k, xs = [.bl k] ∧ Q (.int (if k then 1 else 0)) H
theorem ev_intB {b : Bool} (ha : EvX K ta es (.bool b)) : EvE K (tCB rInt1 (tCons ta tNil)) es (.int (if b then 1 else 0)) := ev_cb1 ha fun x H hx Q q => .inr ⟨b, by rw [dp_bl hx], q _ fun _ => .int _⟩
theorem ef_listL (ha : EvE K ta es (.list ds)) : EvF K (tCB (rListS K) (tCons ta tNil)) es ds := .mk fun {G H σ} S {H1} e1 {Q} q =>
  ha.1 S e1 fun x H2 e2 hx => by
    obtain ⟨p, xs, rfl, hs, hd⟩ := dp_lst hx
    exact ⟨p, xs, rfl, .inl (ex_l grow_ex hs), fun r hr => q r _ _ (fresh_back e2 hr) (e2.trans (Ex.new hr)) upd_same (hd.up (ex_hide (grow_mono (Ex.new hr)) (grow_none hr)))⟩
theorem ef_listT (ha : EvE K ta es (.tuple ds)) : EvF K (tCB (rListS K) (tCons ta tNil)) es ds := .mk fun {G H σ} S {H1} e1 {Q} q =>
  ha.1 S e1 fun x H2 e2 hx => by
    obtain ⟨p, xs, rfl, hs, hd⟩ := dp_tup hx
    exact ⟨p, xs, rfl, .inr (ex_t grow_ex hs), fun r hr => q r _ _ (fresh_back e2 hr) (e2.trans (Ex.new hr)) upd_same (hd.up (ex_hide (grow_mono (Ex.new hr)) (grow_none hr)))⟩
def rTupS (K : PySem.W.Frag) : List V → Hp → VK → Prop := fun xs H Q => ∃ p ys, xs = [.ref p] ∧ ((SqL K H p ys ∧ ∀ l, H l = none → Q (.ref l) (upd H l (.tup ys))) ∨ (SqT K H p ys ∧ Q (.ref p) H))
theorem ev_tupL (ha : EvE K ta es (.list ds)) : EvE K (tCB (rTupS K) (tCons ta tNil)) es (.tuple ds) := .mk fun {G H σ} S {H1} e1 {Q} q =>
  ha.1 S e1 fun x H2 e2 hx => by
    obtain ⟨p, xs, rfl, hs, hd⟩ := dp_lst hx
    refine ⟨p, xs, rfl, .inl ⟨ex_l grow_ex hs, fun r hr => q _ _ (e2.trans (Ex.new hr)) (.tup (.inl (.inl ?_)) (hd.up (grow_mono (Ex.new hr))))⟩⟩
    rw [grow_new (fresh_back (e1.trans e2) hr)]
    exact upd_same
theorem ev_tupO {k : Nat} (ha : es[k]? = some (Ent.own ds)) : EvE K (tCB (rTupS K) (tCons (tVar k) tNil)) es (.tuple ds) := .mk fun {G H σ} S {H1} e1 {Q} q => by
  obtain ⟨p, xs, hv, gp, hp, hd⟩ := S.own k ds ha
  refine ⟨_, hv, p, xs, rfl, .inl ⟨.inl (.inl (e1 _ _ hp)), fun r hr => q _ _ (Ex.new hr) (.tup (.inl (.inl ?_)) (hd.up (ex_grow S.ex (e1.trans (Ex.new hr)))))⟩⟩
  rw [grow_new (fresh_back e1 hr)]
  exact upd_same
/-! tests -/
theorem eb_test {b : Bool} (h : EvX K ta es (.bool b)) : EvB K (tTest ta) es b := .mk fun {_ _ _} S {_} e1 {_} q => h.1 S e1 fun x H2 e2 hx => ⟨b, dp_bl hx, q H2 e2⟩
theorem eb_B {b : Bool} (h : EvX K ta es (.bool b)) : EvB K (tB ta) es b := .mk fun {_ _ _} S {_} e1 {_} q => h.1 S e1 fun x H2 e2 hx => ⟨b, dp_bl hx, q H2 e2⟩
theorem eb_and {a b : Bool} (h1 : EvB K t es a) (h2 : a = true → EvB K u es b) : EvB K (tAnd t u) es (a && b) := .mk fun {_ _ _} S {_} e1 {_} q => h1.1 S e1 fun H2 e2 => by
  cases a with
  | true => exact iteT ((h2 rfl).1 S (e1.trans e2) fun H3 e3 => q H3 (e2.trans e3))
  | false => exact iteF (q H2 e2)
theorem eb_or {a b : Bool} (h1 : EvB K t es a) (h2 : a = false → EvB K u es b) : EvB K (tOr t u) es (a || b) := .mk fun {_ _ _} S {_} e1 {_} q => h1.1 S e1 fun H2 e2 => by
  cases a with
  | true => exact iteT (q H2 e2)
  | false => exact iteF ((h2 rfl).1 S (e1.trans e2) fun H3 e3 => q H3 (e2.trans e3))
theorem eb_not {a : Bool} (h1 : EvB K t es a) : EvB K (tNot t) es (!a) := .mk fun {_ _ _} S {_} e1 {_} q => h1.1 S e1 fun H2 e2 => q H2 e2
theorem ev_andV {a b : Bool} (h1 : EvX K ta es (.bool a)) (h2 : a = true → EvX K tb es (.bool b)) : EvE K (tAndV ta tb) es (.bool (a && b)) := .mk fun {_ _ _} S {_} e1 {_} q => h1.1 S e1 fun x H2 e2 hx => ⟨a, dp_bl hx, by
  cases a with
  | true => exact iteT ((h2 rfl).1 S (e1.trans e2) fun y H3 e3 hy => q y H3 (e2.trans e3) (by rw [dp_bl hy]; exact .bl _))
  | false => exact iteF (q _ H2 e2 (.bl _))⟩
theorem ev_orV {a b : Bool} (h1 : EvX K ta es (.bool a)) (h2 : a = false → EvX K tb es (.bool b)) : EvE K (tOrV ta tb) es (.bool (a || b)) := .mk fun {_ _ _} S {_} e1 {_} q => h1.1 S e1 fun x H2 e2 hx => ⟨a, dp_bl hx, by
  cases a with
  | true => exact iteT (q _ H2 e2 (.bl _))
  | false => exact iteF ((h2 rfl).1 S (e1.trans e2) fun y H3 e3 hy => q y H3 (e2.trans e3) (by rw [dp_bl hy]; exact .bl _))⟩
theorem ev_notV {a : Bool} (h1 : EvX K ta es (.bool a)) : EvE K (tNotV ta) es (.bool (!a)) := .mk fun {_ _ _} S {_} e1 {_} q => h1.1 S e1 fun x H2 e2 hx => ⟨a, dp_bl hx, q _ H2 e2 (.bl _)⟩
def tTru (K : PySem.W.Frag) (ta : TE) : TT := fun σ H Q => ta σ H fun x H' => ∃ k, TruV K x H' k ∧ Q k H'
theorem ev_if {b : Bool} (h : EvB K t es b) (h1 : b = true → EvE K ta es d) (h2 : b = false → EvE K tb es d) : EvE K (tIf t ta tb) es d := .mk fun {_ _ _} S {_} e1 {_} q => h.1 S e1 fun H2 e2 => by
  cases b with
  | true => exact iteT ((h1 rfl).1 S (e1.trans e2) fun y H3 e3 hy => q y H3 (e2.trans e3) hy)
  | false => exact iteF ((h2 rfl).1 S (e1.trans e2) fun y H3 e3 hy => q y H3 (e2.trans e3) hy)
end

/-! ### promises -/
def spF {α : Type} (K : PySem.W.Frag) (args : α → List PyData) (pre : α → Prop) (res : α → PyData) : Sp := fun vs H Q _ => ∃ a : α, DpAll K H vs (args a) ∧ pre a ∧ ∀ v H2, Ex H H2 → Dp K H2 v (res a) → Q v H2
def spL {α : Type} (K : PySem.W.Frag) (args : α → List PyData) (pre : α → Prop) (res : α → List PyData) : Sp := fun vs H Q _ => ∃ a : α, DpAll K H vs (args a) ∧ pre a ∧
  ∀ p xs H2, H p = none → Ex H H2 → H2 p = some (.lst xs) → DpAll K (hide p H2) xs (res a) → Q (.ref p) H2
section
variable {K : PySem.W.Frag} {es : Es} {ta tb tc : TE} {d e : PyData} {ds : List PyData} {α : Type} {args : α → List PyData} {pre : α → Prop}
theorem sqT_grow {G H H2 : Hp} (hg : ∀ a o, G a = none → H a = some o → NT o) (e : Ex H H2) : ExT K H2 (grow G H H2) := fun a xs q => by
  rcases q with (q | ⟨o, q⟩) | q
  · refine .inl (.inl ?_)
    cases g : G a with
    | some o => rw [grow_pub g]; exact q
    | none =>
      cases h : H a with
      | none => rw [grow_new h]; exact q
      | some o =>
        have nt := hg a o g h
        rw [e _ _ h] at q
        cases q
        exact nt.elim
  · refine .inl (.inr ⟨o, ?_⟩)
    cases g : G a with
    | some o' => rw [grow_pub g]; exact q
    | none =>
      cases h : H a with
      | none => rw [grow_new h]; exact q
      | some o' =>
        have nt := hg a o' g h
        rw [e _ _ h] at q
        cases q
        exact nt.elim
  · exact .inr q
theorem exT_hide {p : Addr} {G : Hp} {xs : List V} (h : G p = some (.lst xs)) : ExT K G (hide p G) := fun a ys q => by
  rcases q with (q | ⟨o, q⟩) | q
  · refine .inl (.inl ?_)
    rw [hide_ne fun z => by rw [z, h] at q; cases q]
    exact q
  · refine .inl (.inr ⟨o, ?_⟩)
    rw [hide_ne fun z => by rw [z, h] at q; cases q]
    exact q
  · exact .inr q
theorem ev_call {res : α → PyData} {t : TA} {E : XK} (a : α) (h : EvA K t es (args a)) (hp : pre a) (hi : imm (res a) = true) : EvE K (tCall (spF K args pre res) [] E t) es (res a) := .mk fun {G H σ} S {H1} e1 {Q} q =>
  h.1 S e1 fun vs H2 e2 hd => ⟨a, by rw [List.append_nil]; exact hd, hp, fun v H3 e3 hv => q v H3 (e2.trans e3) (dp_imm (sqT_grow S.prv ((e1.trans e2).trans e3)) _ _ hi hv)⟩
theorem ev_callX {res : α → PyData} {t : TA} {E : XK} (a : α) (h : EvA K t es (args a)) (hp : pre a) : EvX K (tCall (spF K args pre res) [] E t) es (res a) := .mk fun {G H σ} S {H1} e1 {Q} q =>
  h.1 S e1 fun vs H2 e2 hd => ⟨a, by rw [List.append_nil]; exact hd, hp, fun v H3 e3 hv => q v H3 (e2.trans e3) hv⟩
theorem ef_call {res : α → List PyData} {t : TA} {E : XK} (a : α) (h : EvA K t es (args a)) (hp : pre a) (hi : immAll (res a) = true) : EvF K (tCall (spL K args pre res) [] E t) es (res a) := .mk fun {G H σ} S {H1} e1 {Q} q =>
  h.1 S e1 fun vs H2 e2 hd => ⟨a, by rw [List.append_nil]; exact hd, hp, fun p xs H3 n e3 hl hx => q p xs H3 (fresh_back e2 n) (e2.trans e3) hl (by
    have hG : grow G H H3 p = some (.lst xs) := by
      rw [grow_new (fresh_back (e1.trans e2) n)]
      exact hl
    exact dpa_imm (exT_hide hG) _ _ hi (dpa_imm (sqT_grow S.prv ((e1.trans e2).trans e3)) _ _ hi (hx.up hide_ex)))⟩
end

/-! ### statements -/
inductive Rt where
  | val (d : PyData)
  | fresh (ds : List PyData)
structure Post where
  nx : Es → Prop := fun _ => False
  rt : Rt → Prop := fun _ => False
  bk : Es → Prop := fun _ => False
  ct : Es → Prop := fun _ => False
def RtOk (K : PySem.W.Frag) (G H : Hp) (v : V) : Rt → Prop
  | .val d => Dp K H v d
  | .fresh ds => ∃ p xs, v = .ref p ∧ G p = none ∧ H p = some (.lst xs) ∧ DpAll K (hide p H) xs ds
structure Dk (K : PySem.W.Frag) (G : Hp) (P : Post) (D : Ends) : Prop where
  nx : ∀ G' H' σ' es', P.nx es' → Ex G G' → SE K G' H' σ' es' → D.nx σ' H'
  bk : ∀ G' H' σ' es', P.bk es' → Ex G G' → SE K G' H' σ' es' → D.bk σ' H'
  ct : ∀ G' H' σ' es', P.ct es' → Ex G G' → SE K G' H' σ' es' → D.ct σ' H'
  rt : ∀ v H' r, P.rt r → Ex G H' → RtOk K G H' v r → D.rt v H'
structure Ws (K : PySem.W.Frag) (t : TS) (es : Es) (P : Post) : Prop where
  run : ∀ {G H : Hp} {σ : L2.St} {D : Ends}, SE K G H σ es → Dk K G P D → t D σ H
section
variable {K : PySem.W.Frag} {es : Es} {ta tb te : TE} {tc : TT} {t u : TS} {d e : PyData} {ds : List PyData} {P : Post}
theorem RtOk.back {G G' H : Hp} {v : V} (e : Ex G G') : ∀ {r : Rt}, RtOk K G' H v r → RtOk K G H v r
  | .val _, h => h
  | .fresh _, ⟨p, xs, a, b, c⟩ => ⟨p, xs, a, fresh_back e b, c⟩
theorem Dk.mono {G G' : Hp} {D : Ends} (k : Dk K G P D) (e : Ex G G') : Dk K G' P D where
  nx := fun G2 H2 σ2 es2 h e2 S => k.nx G2 H2 σ2 es2 h (e.trans e2) S
  bk := fun G2 H2 σ2 es2 h e2 S => k.bk G2 H2 σ2 es2 h (e.trans e2) S
  ct := fun G2 H2 σ2 es2 h e2 S => k.ct G2 H2 σ2 es2 h (e.trans e2) S
  rt := fun v H2 r h e2 o => k.rt v H2 r h (e.trans e2) (o.back e)
theorem w_seq (h : Ws K t es { P with nx := fun e => Ws K u e P }) : Ws K (tSeq t u) es P := .mk fun {G H σ D} S k =>
  h.1 (D := { D with nx := u D }) S ⟨fun G' H' σ' es' hu e S' => hu.1 S' (k.mono e), k.bk, k.ct, k.rt⟩
theorem w_next (h : P.nx es) : Ws K tNext es P := .mk fun {G H σ D} S k => k.nx G H σ es h (Ex.refl _) S
theorem w_break (h : P.bk es) : Ws K tBreak es P := .mk fun {G H σ D} S k => k.bk G H σ es h (Ex.refl _) S
theorem w_cont (h : P.ct es) : Ws K tCont es P := .mk fun {G H σ D} S k => k.ct G H σ es h (Ex.refl _) S
theorem w_asg {i : Nat} (h : EvE K te es d) (hn : P.nx (es.set i (.dat d))) : Ws K (tAsg te (gName i)) es P := .mk fun {G H σ D} S k =>
  h.1 S (Ex.refl _) fun v H2 e2 hd => k.nx _ _ _ _ hn (ex_grow S.ex e2) ((S.grow e2).putDat i hd)
theorem w_asgF {i : Nat} (h : EvF K te es ds) (hn : P.nx (es.set i (.own ds))) : Ws K (tAsg te (gName i)) es P := .mk fun {G H σ D} S k =>
  h.1 S (Ex.refl _) fun p xs H2 n e2 hp hd => k.nx _ _ _ _ hn (ex_hide (ex_grow S.ex e2) (fresh_back S.ex n)) (S.putOwn i e2 n hp hd)
theorem w_asgR {i : Nat} {ta : TA} {lo hi : Int} (h : EvA K ta es [.int lo, .int hi]) (hn : P.nx (es.set i (.rng lo hi))) :
    Ws K (tAsg (tCB (fun vs H Q => ∃ i j, vs = [V.int i, V.int j] ∧ ∀ p, H p = none → Q (.ref p) (upd H p (.rng i j))) ta) (gName i)) es P := .mk fun {G H σ D} S k =>
  h.1 S (Ex.refl _) fun vs H2 e2 hd => by
    obtain ⟨v, w, rfl, h1, h2⟩ := dpa_two hd
    refine ⟨lo, hi, by rw [dp_int h1, dp_int h2], fun p hp => ?_⟩
    have e3 : Ex H (upd H2 p (.rng lo hi)) := e2.trans (Ex.new hp)
    refine k.nx _ _ _ _ hn (ex_grow S.ex e3) ((S.grow e3).putRng i ?_)
    rw [grow_new (fresh_back e2 hp)]
    exact upd_same
theorem w_drop (h : EvX K te es d) (hn : P.nx es) : Ws K (tDrop te) es P := .mk fun {G H σ D} S k =>
  h.1 S (Ex.refl _) fun v H2 e2 hd => k.nx _ _ _ _ hn (ex_grow S.ex e2) (S.grow e2)
theorem w_ret (h : EvX K te es d) (hr : P.rt (.val d)) : Ws K (tRet te) es P := .mk fun {G H σ D} S k =>
  h.1 S (Ex.refl _) fun v H2 e2 hd => k.rt v H2 _ hr (S.ex.trans e2) hd
theorem w_retF (h : EvF K te es ds) (hr : P.rt (.fresh ds)) : Ws K (tRet te) es P := .mk fun {G H σ D} S k =>
  h.1 S (Ex.refl _) fun p xs H2 n e2 hp hd => k.rt _ H2 _ hr (S.ex.trans e2) ⟨p, xs, rfl, fresh_back S.ex n, hp, hd.up (hide_mono grow_ex)⟩
theorem w_retO {i : Nat} (h : es[i]? = some (Ent.own ds)) (hr : P.rt (.fresh ds)) : Ws K (tRet (tVar i)) es P := .mk fun {G H σ D} S k => by
  obtain ⟨p, xs, hv, gp, hp, hd⟩ := S.own i ds h
  exact ⟨_, hv, k.rt _ H _ hr S.ex ⟨p, xs, rfl, gp, hp, hd.up (ex_hide S.ex gp)⟩⟩
theorem w_retN (hr : P.rt (.val .none)) : Ws K tRetN es P := .mk fun {G H σ D} S k => k.rt _ H _ hr S.ex .non
theorem w_if {b : Bool} (h : EvB K tc es b) (h1 : b = true → Ws K t es P) (h2 : b = false → Ws K u es P) : Ws K (tIfS tc t u) es P := .mk fun {G H σ D} S k =>
  h.1 S (Ex.refl _) fun H2 e2 => by
    cases b with
    | true => exact iteT ((h1 rfl).1 (S.grow e2) (k.mono (ex_grow S.ex e2)))
    | false => exact iteF ((h2 rfl).1 (S.grow e2) (k.mono (ex_grow S.ex e2)))
/-- a list of one's own is shared from here on -/
theorem w_share {i : Nat} (hi : es[i]? = some (Ent.own ds)) (h : Ws K t (es.set i (.dat (.list ds))) P) : Ws K t es P := .mk fun {G H σ D} S k => by
  obtain ⟨G', e, S'⟩ := S.share hi
  exact h.1 S' (k.mono e)
theorem w_aug {i : Nat} {f : Int → Int → Int} {a b : Int} (hi : es[i]? = some (Ent.dat (.int a))) (h : EvX K te es (.int b)) (hn : P.nx (es.set i (.dat (.int (f a b))))) : Ws K (tAug i te (ipI f)) es P := .mk fun {G H σ D} S k => by
  obtain ⟨v, hv, hd⟩ := S.dat i _ hi
  refine ⟨v, hv, h.1 S (Ex.refl _) fun w H2 e2 hw => ⟨a, b, dp_int hd, dp_int hw, ?_⟩⟩
  exact k.nx _ _ _ _ hn (ex_grow S.ex e2) ((S.grow e2).putDat i (.int _))
/-- .append -/
theorem w_append {i : Nat} (hi : es[i]? = some (Ent.own ds)) (h : EvE K te es d) (hz : ds.length < 100000) (hn : P.nx (es.set i (.own (ds ++ [d])))) : Ws K (tDrop (tBM K "list" rAppend (tVar i) (tCons te tNil))) es P := .mk fun {G H σ D} S k => by
  obtain ⟨p, xs, hv, gp, hp, hd⟩ := S.own i ds hi
  refine ⟨_, hv, .inl ⟨rfl, xs, .inl (.inl hp)⟩, h.1 S (Ex.refl _) fun v H2 e2 hw => ?_⟩
  refine ⟨p, xs, v, rfl, rfl, e2 _ _ hp, sz_lt (by rw [dpa_len hd]; exact hz), ?_⟩
  exact k.nx _ _ _ _ hn (ex_grow S.ex e2) ((S.grow e2).write hi hv (dpa_snoc (hd.up (ex_grow S.ex e2)) hw))
/-- x = xs.pop() -/
theorem w_pop {i j : Nat} (hij : i ≠ j) (hi : es[i]? = some (Ent.own (ds ++ [d]))) (hn : P.nx ((es.set i (.own ds)).set j (.dat d))) : Ws K (tAsg (tBM0 K "list" rPop (tVar i)) (gName j)) es P := .mk fun {G H σ D} S k => by
  obtain ⟨p, xs, hv, gp, hp, hd⟩ := S.own i _ hi
  have hl := dpa_len hd
  rw [List.length_append] at hl
  have hl : xs.length = ds.length + 1 := hl
  obtain ⟨v, hx, hdv⟩ := dpa_at (i := ds.length) (d := d) hd (by rw [List.getElem?_append_right (Nat.le_refl _), Nat.sub_self]; rfl)
  refine ⟨_, hv, .inl ⟨rfl, xs, .inl (.inl hp)⟩, p, xs, v, rfl, rfl, hp, by rw [hl]; exact hx, ?_⟩
  have hd2 : DpAll K G xs.dropLast ds := by
    have q := dpa_dropLast hd
    rw [List.dropLast_concat] at q
    exact q
  exact k.nx _ _ _ _ hn (Ex.refl _) ((S.write hi hv hd2).putDat j hdv)
/-- xs.extend(ys) -/
theorem w_extend {i : Nat} {es' : List PyData} (hi : es[i]? = some (Ent.own ds)) (h : EvF K te es es') (hz : ds.length + es'.length ≤ 100000) (hn : P.nx (es.set i (.own (ds ++ es')))) : Ws K (tDrop (tBM K "list" rExtend (tVar i) (tCons te tNil))) es P := .mk fun {G H σ D} S k => by
  obtain ⟨p, xs, hv, gp, hp, hd⟩ := S.own i ds hi
  refine ⟨_, hv, .inl ⟨rfl, xs, .inl (.inl hp)⟩, h.1 S (Ex.refl _) fun b ys H2 n e2 hb hw => ?_⟩
  refine ⟨p, b, xs, ys, rfl, rfl, e2 _ _ hp, hb, sz_of (by rw [dpa_len hd, dpa_len hw]; exact hz), ?_⟩
  exact k.nx _ _ _ _ hn (ex_grow S.ex e2) ((S.grow e2).write hi hv (dpa_app (hd.up (ex_grow S.ex e2)) (hw.up hide_ex)))
/-- xs[k] = e -/
theorem w_setL {i n : Nat} {z : Int} (h : EvE K te es d) (hi : es[i]? = some (Ent.own ds)) (hb : EvX K tb es (.int z)) (hz : ixN ds.length z = some n) (hn : P.nx (es.set i (.own (ds.set n d)))) : Ws K (tAsg te (gSub (tVar i) tb rSetL)) es P := .mk fun {G H σ D} S k => by
  refine h.1 S (Ex.refl _) fun v H2 e2 hw => ?_
  obtain ⟨p, xs, hv, gp, hp, hd⟩ := S.own i ds hi
  refine ⟨_, hv, hb.1 S e2 fun y H3 e3 hy => ?_⟩
  refine ⟨p, xs, z, n, rfl, dp_int hy, e3 _ _ (e2 _ _ hp), by rw [dpa_len hd]; exact hz, ?_⟩
  have e23 := e2.trans e3
  exact k.nx _ _ _ _ hn (ex_grow S.ex e23) ((S.grow e23).write hi hv (dpa_set n (hd.up (ex_grow S.ex e23)) (hw.up (grow_mono e3))))
end
end Pu

namespace Pu
open PySem PySem.Spec L2 Evl
open PyProof.Rows (envOfC)

/-! ### ranges that are kept, of any size -/
theorem turn_long {P : Program} {w : World} {K : PySem.W.Frag} {tg : Expr} (it : Addr) (lo : Int) (n : Nat) : Turn P w K tg (Itr lo n) [it] it (fun i h => IsLongIter h it (lo + (i : Nat) * 1) ((n : Int) - (i : Nat)) 1) where
  mem := by simp
  obj := fun i h st b hb => by
    have e : b = it := by simpa using hb
    subst e
    exact ⟨_, st, fun v z => by
      have z' : Data.fields _ = Data.cell v := z
      cases z'⟩
  keep := fun i h h' st k => k it (by simp) _ st
  item := by
    intro X hP hw hK hc i pins s σ H E I hf st hg
    subst hP hw hK
    obtain ⟨f0, f1, f2, f3, f4, f5⟩ := hf it (by simp)
    have W := Walks.longrange (prog := X.prog) (w := X.w) (I.ok.hd hc) it lo 1 n
    refine W.item i s _ _ hg st fun v h' tk hv st' kk => ?_
    obtain ⟨t, rfl⟩ := hv
    have I1 : Inv X pins σ H { s with heap := h', toks := tk } := I.turned (fun b o hb e => kk b o (by simpa using hb) e) f0 f1 f3 f4 f5
    refine ⟨_, rfl, go_of (s := { s with heap := h', toks := tk }) (n := "longrange_iterator") st' rfl rfl (by decide) ⟨.int (lo + i), H, I1, ⟨t, ?_⟩, ⟨rfl, rfl⟩, st', fun b hb => (hf b hb).1⟩⟩
    rw [Int.mul_one]
  done := by
    intro X hP hw hK hc i pins s σ H E I hf st hg
    subst hP hw hK
    obtain ⟨f0, f1, f2, f3, f4, f5⟩ := hf it (by simp)
    exact wpAny_pyNext_long_end (I.ok.hd hc) st (by have : n ≤ i := hg; omega) fun h' eb => ⟨rfl, I.turned (t' := s.toks) (fun b o hb e => eb b o hb e) f0 f1 f3 f4 f5⟩
  self := fun _ _ _ _ _ st h => wpAny_pyIter_longiter st h
def iRngO (tl : TE) : TI := fun σ H R => tl σ H fun x H1 => ∃ a lo hi, x = .ref a ∧ H1 a = some (.rng lo hi) ∧ R (Itr lo (hi - lo).toNat) H1
theorem pi_rngO {X : Cx} {tg l : Expr} {tl : TE} (hl : PE X l tl) : PI X tg l (iRngO tl) := by
  refine ⟨fun pins s σ H R I h => ?_⟩
  refine thn (hl.run pins s σ H _ I h) fun v s1 ⟨x, H1, I1, r1, q1⟩ => ?_
  obtain ⟨a, lo, hi, e, hq, q⟩ := q1
  subst e
  cases r1
  obtain ⟨t, u, v, ho⟩ := I1.hok a _ hq
  have e2 : (((hi - lo).toNat : Nat) : Int) - ((0 : Nat) : Int) = Builtin.Range.rangeSize lo hi 1 := by rw [rangeSize_one]; split <;> omega
  have e1 : lo + ((0 : Nat) : Int) * 1 = lo := by simp
  by_cases hs : Builtin.Range.small lo hi 1 = true
  · refine wpAny_pyIter_range ho hs ?_
    refine ⟨s1.heap.objs.size, [s1.heap.objs.size], _, _, H1, rfl, I1.kept (t' := s1.toks) fun b o e => Heap.get?_push_of_some _ e, turn_range _ lo (hi - lo).toNat, ?_, fun b hb => ?_, q⟩
    · show IsRangeIter _ _ (lo + ((0 : Nat) : Int) * 1) ((((hi - lo).toNat : Nat) : Int) - ((0 : Nat) : Int)) 1
      rw [e1, e2]
      exact Heap.get?_push_size _ rfl
    · have e : b = s1.heap.objs.size := by simpa using hb
      subst e
      exact I1.fpOk (Nat.le_refl _) (I1.hok.fresh (Nat.le_refl _))
  · refine wpAny_pyIter_longrange ho (by simpa using hs) ?_
    refine ⟨s1.heap.objs.size, [s1.heap.objs.size], _, _, H1, rfl, I1.kept (t' := s1.toks) fun b o e => Heap.get?_push_of_some _ e, turn_long _ lo (hi - lo).toNat, ?_, fun b hb => ?_, q⟩
    · show IsLongIter _ _ (lo + ((0 : Nat) : Int) * 1) ((((hi - lo).toNat : Nat) : Int) - ((0 : Nat) : Int)) 1
      rw [e1, e2]
      exact Heap.get?_push_size _ rfl
    · have e : b = s1.heap.objs.size := by simpa using hb
      subst e
      exact I1.fpOk (Nat.le_refl _) (I1.hok.fresh (Nat.le_refl _))

/-! ### what is walked -/
structure ItOk (K : PySem.W.Frag) (G : Hp) (J : It) (ds : List PyData) : Prop where
  go : ∀ i H', Ex G H' → i < ds.length → J.go i H'
  yld : ∀ i x H' H'', Ex G H' → i < ds.length → J.yld i H' x H'' → H'' = H' ∧ ∃ d, ds[i]? = some d ∧ Dp K G x d
  stop : ∀ H', Ex G H' → J.stop ds.length H'
structure EvI (K : PySem.W.Frag) (wi : TI) (es : Es) (ds : List PyData) : Prop where
  run : ∀ {G H : Hp} {σ : L2.St}, SE K G H σ es → ∀ {H1 : Hp}, Ex H H1 → ∀ {R : It → Hp → Prop}, (∀ J H2, Ex H1 H2 → ItOk K (grow G H H2) J ds → R J H2) → wi σ H1 R
section
variable {K : PySem.W.Frag} {es : Es} {ta tb te tl : TE} {tc tt : TT} {t u : TS} {d e : PyData} {ds : List PyData} {P : Post}
theorem it_list {G : Hp} {a : Addr} {xs : List V} (hs : SqL K G a xs) (hd : DpAll K G xs ds) : ItOk K G (Itl K a) ds where
  go := fun i H' e hi => by
    obtain ⟨v, hv, _⟩ := dpa_at hd (List.getElem?_eq_getElem hi)
    exact ⟨xs, v, ex_l e hs, hv⟩
  yld := fun i x H' H'' e hi y => by
    obtain ⟨e1, y⟩ := y
    obtain ⟨v, hv, hdv⟩ := dpa_at hd (List.getElem?_eq_getElem hi)
    have := y xs (ex_l e hs)
    rw [hv] at this
    cases this
    exact ⟨e1, _, List.getElem?_eq_getElem hi, hdv⟩
  stop := fun H' e => ⟨xs, ex_l e hs, by rw [dpa_len hd]; exact Nat.le_refl _⟩
theorem it_tup {G : Hp} {a : Addr} {xs : List V} (hs : SqT K G a xs) (hd : DpAll K G xs ds) : ItOk K G (Itt K a) ds where
  go := fun i H' e hi => by
    obtain ⟨v, hv, _⟩ := dpa_at hd (List.getElem?_eq_getElem hi)
    exact ⟨xs, v, ex_t e hs, hv⟩
  yld := fun i x H' H'' e hi y => by
    obtain ⟨e1, y⟩ := y
    obtain ⟨v, hv, hdv⟩ := dpa_at hd (List.getElem?_eq_getElem hi)
    have := y xs (ex_t e hs)
    rw [hv] at this
    cases this
    exact ⟨e1, _, List.getElem?_eq_getElem hi, hdv⟩
  stop := fun H' e => ⟨xs, ex_t e hs, by rw [dpa_len hd]; exact Nat.le_refl _⟩
/-- lo, lo + 1, .. -/
def rngD (lo : Int) (n : Nat) : List PyData := (List.range n).map fun i => PyData.int (lo + (i : Nat))
theorem rngD_len {lo : Int} {n : Nat} : (rngD lo n).length = n := by unfold rngD; rw [List.length_map, List.length_range]
theorem rngD_get {lo : Int} {n i : Nat} (h : i < n) : (rngD lo n)[i]? = some (.int (lo + (i : Nat))) := by
  unfold rngD
  rw [List.getElem?_map, List.getElem?_range h]
  rfl
theorem it_rng {G : Hp} {lo : Int} {n : Nat} : ItOk K G (Itr lo n) (rngD lo n) where
  go := fun i H' e hi => by rw [rngD_len] at hi; exact hi
  yld := fun i x H' H'' e hi y => by
    rw [rngD_len] at hi
    obtain ⟨e1, rfl⟩ := y
    exact ⟨e1, _, rngD_get hi, .int _⟩
  stop := fun H' e => by rw [rngD_len]; exact Nat.le_refl _
theorem ei_list (h : EvE K tl es (.list ds)) : EvI K (iList K tl) es ds := .mk fun {G H σ} S {H1} e1 {R} q => h.1 S e1 fun x H2 e2 hx => by
  obtain ⟨p, xs, rfl, hs, hd⟩ := dp_lst hx
  exact ⟨p, rfl, ⟨xs, ex_l grow_ex hs⟩, q _ H2 e2 (it_list hs hd)⟩
theorem ei_tup (h : EvE K tl es (.tuple ds)) : EvI K (iTup K tl) es ds := .mk fun {G H σ} S {H1} e1 {R} q => h.1 S e1 fun x H2 e2 hx => by
  obtain ⟨p, xs, rfl, hs, hd⟩ := dp_tup hx
  exact ⟨p, rfl, ⟨xs, ex_t grow_ex hs⟩, q _ H2 e2 (it_tup hs hd)⟩
theorem ei_rng1 {ta : TA} {n : Int} (h : EvA K ta es [.int n]) (hn : -(2 ^ 62) ≤ n ∧ n < 2 ^ 62) : EvI K (iRng1 ta) es (rngD 0 n.toNat) := .mk fun {G H σ} S {H1} e1 {R} q => h.1 S e1 fun vs H2 e2 hx => by
  obtain ⟨v, rfl, hv⟩ := dpa_one hx
  exact ⟨n, by rw [dp_int hv], hn.1, hn.2, q _ H2 e2 it_rng⟩
theorem ei_rng2 {ta : TA} {m n : Int} (h : EvA K ta es [.int m, .int n]) (hm : -(2 ^ 62) ≤ m ∧ m < 2 ^ 62) (hn : -(2 ^ 62) ≤ n ∧ n < 2 ^ 62) : EvI K (iRng2 ta) es (rngD m (n - m).toNat) := .mk fun {G H σ} S {H1} e1 {R} q => h.1 S e1 fun vs H2 e2 hx => by
  obtain ⟨v, w, rfl, hv, hw⟩ := dpa_two hx
  exact ⟨m, n, by rw [dp_int hv, dp_int hw], ⟨hm.1, hm.2, hn.1, hn.2⟩, q _ H2 e2 it_rng⟩
theorem ei_rngO {i : Nat} {lo hi : Int} (h : es[i]? = some (Ent.rng lo hi)) : EvI K (iRngO (tVar i)) es (rngD lo (hi - lo).toNat) := .mk fun {G H σ} S {H1} e1 {R} q => by
  obtain ⟨p, hv, hp⟩ := S.rng i lo hi h
  exact ⟨_, hv, p, lo, hi, rfl, e1 _ _ (S.ex _ _ hp), q _ H1 (Ex.refl _) it_rng⟩

/-! ### targets -/
structure Tg (K : PySem.W.Frag) (g : TG) (d : PyData) (es es' : Es) : Prop where
  run : ∀ {G H : Hp} {σ : L2.St} {v : V}, SE K G H σ es → Dp K G v d → ∀ {Q : L2.St → Hp → Prop}, (∀ σ', SE K G H σ' es' → Q σ' H) → g v σ H Q
theorem tg_name {j : Nat} : Tg K (gName j) d es (es.set j (.dat d)) := .mk fun {G H σ v} S hv {Q} q => q _ (S.putDat j hv)
structure TgA (K : PySem.W.Frag) (g : TGs) (ds : List PyData) (es es' : Es) : Prop where
  run : ∀ {G H : Hp} {σ : L2.St} {vs : List V}, SE K G H σ es → DpAll K G vs ds → ∀ {Q : L2.St → Hp → Prop}, (∀ σ', SE K G H σ' es' → Q σ' H) → g vs σ H Q
theorem tga_nil : TgA K gNil [] es es := .mk fun {G H σ vs} S hv {Q} q => ⟨dpa_nil hv, q _ S⟩
theorem tga_cons {g : TG} {gs : TGs} {e1 e2 : Es} (h : Tg K g d es e1) (h2 : TgA K gs ds e1 e2) : TgA K (gCons g gs) (d :: ds) es e2 := .mk fun {G H σ vs} S hv {Q} q => by
  obtain ⟨v, r, rfl, a, b⟩ := dpa_cons hv
  exact ⟨v, r, rfl, h.1 S a fun σ' S' => h2.1 S' b q⟩
theorem tg_tup {gs : TGs} {n : Nat} {e1 : Es} (h : TgA K gs ds es e1) (hn : ds.length = n) : Tg K (gTup K n gs) (.tuple ds) es e1 := .mk fun {G H σ v} S hv {Q} q => by
  obtain ⟨p, xs, rfl, hs, hd⟩ := dp_tup hv
  exact ⟨p, xs, rfl, ex_t S.ex hs, by rw [dpa_len hd]; exact hn, h.1 S hd q⟩
theorem w_asgT {g : TG} {e1 : Es} (h : EvE K te es d) (ht : Tg K g d es e1) (hn : P.nx e1) : Ws K (tAsg te g) es P := .mk fun {G H σ D} S k =>
  h.1 S (Ex.refl _) fun v H2 e2 hd => ht.1 (S.grow e2) hd fun σ' S' => k.nx _ _ _ _ hn (ex_grow S.ex e2) S'

/-! ### loops -/
theorem w_for {wi : TI} {g : TG} {tb : TS} (h : EvI K wi es ds) (Iv : Nat → Es → Prop) (h0 : Iv 0 es)
    (hs : ∀ i d e, ds[i]? = some d → Iv i e → ∃ e', Tg K g d e e' ∧ Ws K tb e' ⟨Iv (i + 1), P.rt, P.nx, Iv (i + 1)⟩) (hd : ∀ e, Iv ds.length e → P.nx e) : Ws K (tFor wi g tb) es P := .mk fun {G H σ D} S k =>
  h.1 S (Ex.refl _) fun J H2 e2 hJ => by
    refine ⟨fun i m σ' H' => m = ds.length - i ∧ i ≤ ds.length ∧ ∃ G' es', Iv i es' ∧ Ex (grow G H H2) G' ∧ SE K G' H' σ' es', ⟨ds.length, by simp, Nat.zero_le _, _, es, h0, Ex.refl _, S.grow e2⟩, ?_⟩
    rintro i m σ' H' ⟨rfl, hi, G', es', hv, eG, S'⟩
    have e0 : Ex G G' := (ex_grow S.ex e2).trans eG
    by_cases hlt : i < ds.length
    · refine .inr ⟨hJ.go i H' (eG.trans S'.ex) hlt, fun σ2 H3 => ∃ G2 es2, Iv (i + 1) es2 ∧ Ex (grow G H H2) G2 ∧ SE K G2 H3 σ2 es2, fun σ2 H3 q => ⟨ds.length - (i + 1), by omega, rfl, hlt, q⟩, fun x H3 y => ?_⟩
      obtain ⟨rfl, d, hdi, hx⟩ := hJ.yld i x H' H3 (eG.trans S'.ex) hlt y
      obtain ⟨e', tg, ws⟩ := hs i d es' hdi hv
      refine tg.1 S' (hx.up eG) fun σ2 S2 => ws.1 S2 ⟨fun G3 H3 σ3 es3 q e3 S3 => ⟨G3, es3, q, eG.trans e3, S3⟩, fun G3 H3 σ3 es3 q e3 S3 => k.nx G3 H3 σ3 es3 q (e0.trans e3) S3, fun G3 H3 σ3 es3 q e3 S3 => ⟨G3, es3, q, eG.trans e3, S3⟩, fun v H3 r q e3 o => k.rt v H3 r q (e0.trans e3) (o.back e0)⟩
    · have e : i = ds.length := by omega
      subst e
      exact .inl ⟨hJ.stop H' (eG.trans S'.ex), k.nx _ _ _ _ (hd es' hv) e0 S'⟩
theorem w_forN {wi : TI} {j : Nat} {tb : TS} (h : EvI K wi es ds) (Iv : Nat → Es → Prop) (h0 : Iv 0 es)
    (hs : ∀ i d e, ds[i]? = some d → Iv i e → Ws K tb (e.set j (.dat d)) ⟨Iv (i + 1), P.rt, P.nx, Iv (i + 1)⟩) (hd : ∀ e, Iv ds.length e → P.nx e) : Ws K (tFor wi (gName j) tb) es P :=
  w_for h Iv h0 (fun i d e a b => ⟨_, tg_name, hs i d e a b⟩) hd
theorem w_while {tb : TS} (Iv : Nat → Es → Prop) (m0 : Nat) (h0 : Iv m0 es)
    (hs : ∀ m e, Iv m e → ∃ b, EvB K tc e b ∧ (b = true → Ws K tb e ⟨fun e' => ∃ m', m' < m ∧ Iv m' e', P.rt, P.nx, fun e' => ∃ m', m' < m ∧ Iv m' e'⟩) ∧ (b = false → P.nx e)) : Ws K (tWhile tc tb) es P := .mk fun {G H σ D} S k => by
  refine ⟨fun m σ' H' => ∃ G' es', Iv m es' ∧ Ex G G' ∧ SE K G' H' σ' es', ⟨m0, G, es, h0, Ex.refl _, S⟩, ?_⟩
  rintro m σ' H' ⟨G', es', hv, eG, S'⟩
  obtain ⟨b, hb, h1, h2⟩ := hs m es' hv
  refine hb.1 S' (Ex.refl _) fun H2 e2 => ?_
  have e0 : Ex G (grow G' H' H2) := eG.trans (ex_grow S'.ex e2)
  cases b with
  | true =>
    refine iteT ⟨fun σ2 H3 => ∃ m', m' < m ∧ ∃ G2 es2, Iv m' es2 ∧ Ex G G2 ∧ SE K G2 H3 σ2 es2, fun σ2 H3 ⟨m', hm, q⟩ => ⟨m', hm, q⟩, (h1 rfl).1 (S'.grow e2) ⟨?_, ?_, ?_, ?_⟩⟩
    · rintro G3 H3 σ3 es3 ⟨m', hm, q⟩ e3 S3
      exact ⟨m', hm, G3, es3, q, e0.trans e3, S3⟩
    · exact fun G3 H3 σ3 es3 q e3 S3 => k.nx G3 H3 σ3 es3 q (e0.trans e3) S3
    · rintro G3 H3 σ3 es3 ⟨m', hm, q⟩ e3 S3
      exact ⟨m', hm, G3, es3, q, e0.trans e3, S3⟩
    · exact fun v H3 r q e3 o => k.rt v H3 r q (e0.trans e3) (o.back e0)
  | false => exact iteF (k.nx _ _ _ _ (h2 rfl) e0 (S'.grow e2))

/-! ### comprehensions -/
theorem eb_yes : EvB K tYes es true := .mk fun {_ _ _} S {_} e1 {_} q => q _ (Ex.refl _)
theorem hide_upd {G H H2 : Hp} {p : Addr} {o : HO} : hide p (grow G H (upd H2 p o)) = hide p (grow G H H2) := by
  funext a
  by_cases z : a = p
  · rw [z, hide_self, hide_self]
  · rw [hide_ne z, hide_ne z]
    unfold grow
    rw [upd_ne z]
/-- the split within a comprehension: its list is private -/
theorem SE.within {G H H' : Hp} {σ : L2.St} {p : Addr} {xs : List V} (S : SE K G H σ es) (hn : H p = none) (e : Ex H H') (hp : H' p = some (.lst xs)) : SE K (hide p (Pu.grow G H H')) H' σ es := by
  have gp : G p = none := fresh_back S.ex hn
  refine S.re (ex_hide (ex_grow S.ex e) gp) (hide_ex.trans grow_ex) e (fun q ys h1 h2 => ?_) (fun a o h1 h2 => ?_)
  · by_cases z : q = p
    · rw [z, hide_self]
    · rw [hide_ne z, grow_priv h1 h2]
  · by_cases z : a = p
    · rw [z, hp] at h2
      cases h2
      trivial
    · rw [hide_ne z] at h1
      exact prv_grow S.prv e a o h1 h2
theorem within_ex {G H H' H4 : Hp} {p : Addr} {xs : List V} (e : Ex H H') (hp : H' p = some (.lst xs)) : Ex (grow (hide p (grow G H H')) H' H4) (hide p (grow G H H4)) := fun a o h => by
  by_cases z : a = p
  · rw [z, grow_priv hide_self hp] at h
    cases h
  · rw [hide_ne z]
    have h4 := grow_ex _ _ h
    cases hg : G a with
    | some u => rw [grow_pub hg]; exact h4
    | none =>
      cases hh : H a with
      | none => rw [grow_new hh]; exact h4
      | some u =>
        have q : hide p (grow G H H') a = none := by rw [hide_ne z, grow_priv hg hh]
        rw [grow_priv q (e _ _ hh)] at h
        cases h
theorem filt_snoc_yes {f : PyData → Bool} {g : PyData → PyData} {i : Nat} (h : ds[i]? = some d) (hf : f d = true) : ((ds.take (i + 1)).filter f).map g = ((ds.take i).filter f).map g ++ [g d] := by
  rw [List.take_add_one, h, List.filter_append, List.map_append]
  show _ ++ ([d].filter f).map g = _
  rw [List.filter_cons, if_pos hf]
  rfl
theorem filt_snoc_no {f : PyData → Bool} {g : PyData → PyData} {i : Nat} (h : ds[i]? = some d) (hf : f d = false) : ((ds.take (i + 1)).filter f).map g = ((ds.take i).filter f).map g := by
  rw [List.take_add_one, h, List.filter_append, List.map_append]
  show _ ++ ([d].filter f).map g = _
  rw [List.filter_cons, if_neg (by rw [hf]; decide)]
  exact List.append_nil _
theorem ef_lc {wi : TI} {j : Nat} {vs : List Nat} (f : PyData → Bool) (g : PyData → PyData) (h : EvI K wi es ds) (hz : ds.length ≤ 50000) (hj : ∀ σ x, wipe ((wipe σ vs).set j x) vs = wipe σ vs)
    (ht : ∀ d ∈ ds, EvB K tt ((wipeE es vs).set j (.dat d)) (f d)) (he : ∀ d ∈ ds, f d = true → EvE K te ((wipeE es vs).set j (.dat d)) (g d)) : EvF K (tLc wi (gName j) tt te vs) es ((ds.filter f).map g) := .mk fun {G H σ} S {H1} e1 {Q} q =>
  h.1 S e1 fun J H2 e2 hJ Dl hD => by
    have e12 := e1.trans e2
    have hn : H Dl = none := fresh_back e12 hD
    refine ⟨fun i m H' => m = ds.length - i ∧ i ≤ ds.length ∧ Ex H2 H' ∧ ∃ acc, H' Dl = some (.lst acc) ∧ DpAll K (hide Dl (grow G H H')) acc (((ds.take i).filter f).map g), ⟨ds.length, by simp, Nat.zero_le _, Ex.new hD, [], upd_same, .nil⟩, ?_⟩
    rintro i m H' ⟨rfl, hi, eH, acc, ha, hda⟩
    have e' : Ex H H' := e12.trans eH
    by_cases hlt : i < ds.length
    · refine .inr ⟨hJ.go i H' (grow_ex.trans eH) hlt, _, fun H3 w => ⟨ds.length - (i + 1), by omega, w⟩, fun x H3 y => ?_⟩
      obtain ⟨rfl, d, hdi, hx⟩ := hJ.yld i x H' H3 (grow_ex.trans eH) hlt y
      have hm : d ∈ ds := List.mem_of_getElem? hdi
      have S2 := ((S.within hn e' ha).wipe vs).putDat j (hx.up (ex_hide (grow_mono eH) (grow_none hD)))
      refine ⟨hj σ (some x), (ht d hm).1 S2 (Ex.refl _) fun H4 e4 => ?_⟩
      have lacc : acc.length ≤ i := by
        rw [dpa_len hda, List.length_map]
        exact Nat.le_trans (List.length_filter_le _ _) (by rw [List.length_take]; exact Nat.min_le_left _ _)
      cases hf : f d with
      | true =>
        refine iteT ((he d hm hf).1 S2 e4 fun z H5 e5 hz' => ?_)
        have a5 : H5 Dl = some (.lst acc) := e5 _ _ (e4 _ _ ha)
        refine ⟨acc, a5, sz_lt (by omega), rfl, hlt, Ex.mut ((eH.trans e4).trans e5) hD, acc ++ [z], upd_same, ?_⟩
        rw [filt_snoc_yes hdi hf, hide_upd]
        exact dpa_snoc (hda.up (hide_mono (grow_mono (e4.trans e5)))) (hz'.up (within_ex e' ha))
      | false =>
        refine iteF ⟨rfl, hlt, eH.trans e4, acc, e4 _ _ ha, ?_⟩
        rw [filt_snoc_no hdi hf]
        exact hda.up (hide_mono (grow_mono e4))
    · have e : i = ds.length := by omega
      subst e
      refine .inl ⟨hJ.stop H' (grow_ex.trans eH), q Dl acc H' (fresh_back e2 hD) (e2.trans eH) ha ?_⟩
      rw [List.take_length] at hda
      exact hda
theorem ef_lcA {wi : TI} {j : Nat} {vs : List Nat} (g : PyData → PyData) (h : EvI K wi es ds) (hz : ds.length ≤ 50000) (hj : ∀ σ x, wipe ((wipe σ vs).set j x) vs = wipe σ vs)
    (he : ∀ d ∈ ds, EvE K te ((wipeE es vs).set j (.dat d)) (g d)) : EvF K (tLc wi (gName j) tYes te vs) es (ds.map g) :=
  ev_isF (ef_lc (fun _ => true) g h hz hj (fun d _ => eb_yes) fun d hd _ => he d hd) (by rw [List.filter_eq_self.mpr fun _ _ => rfl])
theorem tYes_at {σ : L2.St} {H : Hp} {Q : Bool → Hp → Prop} : tYes σ H Q = Q true H := rfl
/-- two for, no test -/
theorem ef_lc2 {wi wi1 : TI} {j j1 : Nat} {vs vs1 : List Nat} (ds1 : PyData → List PyData) (g : PyData → PyData → PyData) (h : EvI K wi es ds) (hz : (ds.flatMap fun d => (ds1 d).map (g d)).length ≤ 50000)
    (hj : ∀ σ x, wipe ((wipe σ vs).set j x) vs = wipe σ vs) (hj1 : ∀ σ x, wipe ((wipe σ vs1).set j1 x) vs1 = wipe σ vs1)
    (h1 : ∀ d ∈ ds, EvI K wi1 ((wipeE es vs).set j (.dat d)) (ds1 d))
    (he : ∀ d ∈ ds, ∀ d1 ∈ ds1 d, EvE K te ((wipeE ((wipeE es vs).set j (.dat d)) vs1).set j1 (.dat d1)) (g d d1)) : EvF K (tLc2 wi (gName j) tYes wi1 (gName j1) tYes te vs vs1) es (ds.flatMap fun d => (ds1 d).map (g d)) := .mk fun {G H σ} S {H1} e1 {Q} q =>
  h.1 S e1 fun J H2 e2 hJ Dl hD => by
    have e12 := e1.trans e2
    have hn : H Dl = none := fresh_back e12 hD
    refine ⟨fun i m H' => m = ds.length - i ∧ i ≤ ds.length ∧ Ex H2 H' ∧ ∃ acc, H' Dl = some (.lst acc) ∧ DpAll K (hide Dl (grow G H H')) acc ((ds.take i).flatMap fun d => (ds1 d).map (g d)), ⟨ds.length, by simp, Nat.zero_le _, Ex.new hD, [], upd_same, .nil⟩, ?_⟩
    rintro i m H' ⟨rfl, hi, eH, acc, ha, hda⟩
    have e' : Ex H H' := e12.trans eH
    by_cases hlt : i < ds.length
    · refine .inr ⟨hJ.go i H' (grow_ex.trans eH) hlt, fun H' => ds.length - (i + 1) = ds.length - (i + 1) ∧ i + 1 ≤ ds.length ∧ Ex H2 H' ∧ ∃ acc, H' Dl = some (.lst acc) ∧ DpAll K (hide Dl (grow G H H')) acc ((ds.take (i + 1)).flatMap fun d => (ds1 d).map (g d)), fun H3 w => ⟨ds.length - (i + 1), by omega, w⟩, fun x H3 y => ?_⟩
      obtain ⟨rfl, d, hdi, hx⟩ := hJ.yld i x H' H3 (grow_ex.trans eH) hlt y
      have hm : d ∈ ds := List.mem_of_getElem? hdi
      have S2 := ((S.within hn e' ha).wipe vs).putDat j (hx.up (ex_hide (grow_mono eH) (grow_none hD)))
      have tk : (ds.take (i + 1)).flatMap (fun d => (ds1 d).map (g d)) = (ds.take i).flatMap (fun d => (ds1 d).map (g d)) ++ (ds1 d).map (g d) := by
        rw [List.take_add_one, hdi, List.flatMap_append]
        show _ ++ List.flatMap _ [d] = _
        rw [List.flatMap_singleton]
      have tot : ((ds.take (i + 1)).flatMap (fun d => (ds1 d).map (g d))).length ≤ 50000 := by
        refine Nat.le_trans ?_ hz
        conv => rhs; rw [← List.take_append_drop (i + 1) ds, List.flatMap_append, List.length_append]
        exact Nat.le_add_right _ _
      rw [tk, List.length_append, List.length_map] at tot
      refine ⟨hj σ (some x), ?_⟩
      rw [tYes_at]
      rw [if_pos rfl]
      refine (h1 d hm).1 S2 (Ex.refl _) fun J1 H4 e4 hJ1 => ?_
      have e4' : Ex H H4 := e'.trans e4
      have a4 : H4 Dl = some (.lst acc) := e4 _ _ ha
      refine ⟨fun k n H5 => n = (ds1 d).length - k ∧ k ≤ (ds1 d).length ∧ Ex H2 H5 ∧ Ex (grow (hide Dl (grow G H H3)) H3 H4) (hide Dl (grow G H H5)) ∧ ∃ acc2, H5 Dl = some (.lst acc2) ∧ DpAll K (hide Dl (grow G H H5)) acc2 ((ds.take i).flatMap (fun d => (ds1 d).map (g d)) ++ ((ds1 d).take k).map (g d)),
        ⟨(ds1 d).length, by simp, Nat.zero_le _, eH.trans e4, within_ex e' ha, acc, a4, ?_⟩, ?_⟩
      · show DpAll K _ acc (_ ++ [])
        rw [List.append_nil]
        exact hda.up (hide_mono (grow_mono e4))
      rintro k n H5 ⟨rfl, hk, eH5, ew, acc2, a5, hd5⟩
      have e5' : Ex H H5 := e12.trans eH5
      have ewd : Ex (grow (hide Dl (grow G H H3)) H3 H4) H5 := ew.trans (hide_ex.trans grow_ex)
      by_cases hlt1 : k < (ds1 d).length
      · refine .inr ⟨hJ1.go k H5 ewd hlt1, fun H5 => (ds1 d).length - (k + 1) = (ds1 d).length - (k + 1) ∧ k + 1 ≤ (ds1 d).length ∧ Ex H2 H5 ∧ Ex (grow (hide Dl (grow G H H3)) H3 H4) (hide Dl (grow G H H5)) ∧ ∃ acc2, H5 Dl = some (.lst acc2) ∧ DpAll K (hide Dl (grow G H H5)) acc2 ((ds.take i).flatMap (fun d => (ds1 d).map (g d)) ++ ((ds1 d).take (k + 1)).map (g d)), fun H6 w => ⟨(ds1 d).length - (k + 1), by omega, w⟩, fun x1 H6 y1 => ?_⟩
        obtain ⟨rfl, d1, hdk, hx1⟩ := hJ1.yld k x1 H5 H6 ewd hlt1 y1
        have hm1 : d1 ∈ ds1 d := List.mem_of_getElem? hdk
        have hx2 : Dp K (hide Dl (grow G H H6)) x d := hx.up (ex_hide (grow_mono eH5) (grow_none hD))
        have S3 := (((((S.within hn e5' a5).wipe vs).putDat j hx2).wipe vs1).putDat j1 (hx1.up ew))
        refine ⟨hj1 _ (some x1), ?_⟩
        rw [tYes_at]
        rw [if_pos rfl]
        refine (he d hm d1 hm1).1 S3 (Ex.refl _) fun z H7 e7 hz' => ?_
        have a7 : H7 Dl = some (.lst acc2) := e7 _ _ a5
        have lacc : acc2.length < 100000 := by
          rw [dpa_len hd5, List.length_append, List.length_map, List.length_take]
          have : min k (ds1 d).length ≤ (ds1 d).length := Nat.min_le_right _ _
          omega
        refine ⟨acc2, a7, sz_lt lacc, rfl, hlt1, Ex.mut (eH5.trans e7) hD, ?_, acc2 ++ [z], upd_same, ?_⟩
        · rw [hide_upd]
          exact ew.trans (hide_mono (grow_mono e7))
        · rw [hide_upd, List.take_add_one, hdk, List.map_append, ← List.append_assoc]
          exact dpa_snoc (hd5.up (hide_mono (grow_mono e7))) (hz'.up (within_ex e5' a5))
      · have e : k = (ds1 d).length := by omega
        subst e
        refine .inl ⟨hJ1.stop H5 ewd, rfl, hlt, eH5, acc2, a5, ?_⟩
        rw [tk]
        rw [List.take_length] at hd5
        exact hd5
    · have e : i = ds.length := by omega
      subst e
      refine .inl ⟨hJ.stop H' (grow_ex.trans eH), q Dl acc H' (fresh_back e2 hD) (e2.trans eH) ha ?_⟩
      rw [List.take_length] at hda
      exact hda
end

/-! ### a def -/
def startE (N : List Str) (ds : List PyData) : Es := ds.map .dat ++ List.replicate (N.length - ds.length) .no
section
variable {P : Program} {w : World} {K : PySem.W.Frag} {mg : Str → Option Value} {base : Heap}
theorem se_start {N : List Str} {vs : List V} {ds : List PyData} {H : Hp} (h : DpAll K H vs ds) : SE K H H (L2.start N vs) (startE N ds) := by
  have hl := dpa_len h
  have key : ∀ (i : Nat) (en : Ent), (startE N ds)[i]? = some en → (∃ d, en = .dat d ∧ ds[i]? = some d) ∨ en = .no := fun i en hi => by
    unfold startE at hi
    by_cases hlt : i < ds.length
    · rw [List.getElem?_append_left (by rw [List.length_map]; exact hlt), List.getElem?_map, List.getElem?_eq_getElem hlt] at hi
      cases hi
      exact .inl ⟨_, rfl, List.getElem?_eq_getElem hlt⟩
    · rw [List.getElem?_append_right (by rw [List.length_map]; omega)] at hi
      have := List.mem_of_getElem? hi
      exact .inr (List.eq_of_mem_replicate this)
  refine ⟨Ex.refl _, ?_, fun i d hi => ?_, fun i d hi => ?_, fun i j d d' p hi => ?_, fun i lo hi hh => ?_, fun a o h1 h2 => ?_⟩
  · unfold startE L2.start
    rw [List.length_append, List.length_append, List.length_map, List.length_map, List.length_replicate, List.length_replicate, hl]
  · rcases key i _ hi with ⟨d', e, q⟩ | e
    · cases e
      obtain ⟨v, hv, hd⟩ := dpa_at h q
      refine ⟨v, ?_, hd⟩
      have hlt : i < vs.length := (List.getElem?_eq_some_iff.mp hv).1
      unfold L2.start
      rw [List.getElem?_append_left (by rw [List.length_map]; exact hlt), List.getElem?_map, hv]
      rfl
    · cases e
  · rcases key i _ hi with ⟨d', e, q⟩ | e <;> cases e
  · rcases key i _ hi with ⟨d', e, q⟩ | e <;> cases e
  · rcases key i _ hh with ⟨d', e, q⟩ | e <;> cases e
  · rw [h1] at h2
    cases h2
/-- a def that gives data -/
theorem fn_val {α : Type} {x qual : Str} {st : Stmt} {f : Addr} {fd : FuncData} {N ps : List Str} {k : Nat} {args : α → List PyData} {pre : α → Prop} {res : α → PyData} (F : Fun K x qual st f fd) (S : FnScope N ps (defScope st)) (hl : ∀ a, (args a).length = ps.length)
    (h : ∀ (cdv : Value) (A : Around) (outer : List Env) (s : Shared) (H : Hp) (E : XK), Room k (A.deeper (envOfC qual (defScope st) s.heap.objs.size f cdv)) →
      ∃ t, PSs (cxOf CX0 P w K mg base N qual (defScope st) f cdv A outer s H E).nox (defBody st) t ∧ ∀ a, pre a → Ws K t (startE N (args a)) { nx := fun _ => res a = .none, rt := fun r => r = .val (res a) ∨ ∃ ds, res a = .list ds ∧ r = .fresh ds }) :
    FnOk P w K mg base CX0 (k + 1) f fd ps (spF K args pre res) := by
  refine F.ok S (fun vs H Q E ⟨a, hd, _⟩ => by rw [dpa_len hd, hl]) (fun cdv A outer s H vs Q E hr hsp => ?_)
  obtain ⟨a, hd, hp, q⟩ := hsp
  obtain ⟨t, ht, hw⟩ := h cdv A outer s H E hr
  refine ⟨t, ht, (hw a hp).1 (se_start hd) ⟨fun G' H' σ' es' e eG S' => ?_, fun _ _ _ _ z => z.elim, fun _ _ _ _ z => z.elim, fun v H' r hr2 eG o => ?_⟩⟩
  · exact q .non H' (eG.trans S'.ex) (by rw [show res a = .none from e]; exact .non)
  · rcases hr2 with rfl | ⟨ds, e, rfl⟩
    · exact q v H' eG o
    · obtain ⟨p, xs, rfl, _, hp2, hx⟩ := o
      exact q _ H' eG (by rw [e]; exact .lst (.inl (.inl hp2)) (hx.up hide_ex))
/-- a def that gives a new list -/
theorem fn_lst {α : Type} {x qual : Str} {st : Stmt} {f : Addr} {fd : FuncData} {N ps : List Str} {k : Nat} {args : α → List PyData} {pre : α → Prop} {res : α → List PyData} (F : Fun K x qual st f fd) (S : FnScope N ps (defScope st)) (hl : ∀ a, (args a).length = ps.length)
    (h : ∀ (cdv : Value) (A : Around) (outer : List Env) (s : Shared) (H : Hp) (E : XK), Room k (A.deeper (envOfC qual (defScope st) s.heap.objs.size f cdv)) →
      ∃ t, PSs (cxOf CX0 P w K mg base N qual (defScope st) f cdv A outer s H E).nox (defBody st) t ∧ ∀ a, pre a → Ws K t (startE N (args a)) { rt := fun r => r = .fresh (res a) }) :
    FnOk P w K mg base CX0 (k + 1) f fd ps (spL K args pre res) := by
  refine F.ok S (fun vs H Q E ⟨a, hd, _⟩ => by rw [dpa_len hd, hl]) (fun cdv A outer s H vs Q E hr hsp => ?_)
  obtain ⟨a, hd, hp, q⟩ := hsp
  obtain ⟨t, ht, hw⟩ := h cdv A outer s H E hr
  refine ⟨t, ht, (hw a hp).1 (se_start hd) ⟨fun _ _ _ _ z => z.elim, fun _ _ _ _ z => z.elim, fun _ _ _ _ z => z.elim, fun v H' r hr2 eG o => ?_⟩⟩
  have e : r = .fresh (res a) := hr2
  subst e
  obtain ⟨p, xs, rfl, n, hp2, hx⟩ := o
  exact q p xs H' n eG hp2 hx
/-- a promise for fewer arguments -/
theorem fn_imp {α β : Type} {f : Addr} {fd : FuncData} {ps : List Str} {k : Nat} {args : α → List PyData} {pre : α → Prop} {res : α → PyData} {args' : β → List PyData} {pre' : β → Prop} {res' : β → PyData} (F : FnOk P w K mg base CX0 k f fd ps (spF K args pre res))
    (h : ∀ b, pre' b → ∃ a, args a = args' b ∧ pre a ∧ res a = res' b) : FnOk P w K mg base CX0 k f fd ps (spF K args' pre' res') :=
  F.imp fun vs H Q E ⟨b, hd, hp, q⟩ => by
    obtain ⟨a, e1, e2, e3⟩ := h b hp
    exact ⟨a, by rw [e1]; exact hd, e2, fun v H2 e hv => q v H2 e (by rw [← e3]; exact hv)⟩
end
theorem dpa_mkInts {K : PySem.W.Frag} {H : Hp} : ∀ {ns : List Int}, DpAll K H (ns.map V.int) (ns.map PyData.int)
  | [] => .nil
  | n :: ns => .cons (.int n) dpa_mkInts
/-! isinstance of plain kinds -/
theorem kb_int_int : kitB "int" "int" = some true := by decide +kernel
theorem kb_int_bool : kitB "int" "bool" = some false := by decide +kernel
theorem kb_int_str : kitB "int" "str" = some false := by decide +kernel
theorem kb_int_list : kitB "int" "list" = some false := by decide +kernel
theorem kb_int_tuple : kitB "int" "tuple" = some false := by decide +kernel
theorem kb_bool_int : kitB "bool" "int" = some true := by decide +kernel
theorem kb_bool_bool : kitB "bool" "bool" = some true := by decide +kernel
theorem kb_bool_str : kitB "bool" "str" = some false := by decide +kernel
theorem kb_bool_list : kitB "bool" "list" = some false := by decide +kernel
theorem kb_bool_tuple : kitB "bool" "tuple" = some false := by decide +kernel
theorem kb_str_int : kitB "str" "int" = some false := by decide +kernel
theorem kb_str_bool : kitB "str" "bool" = some false := by decide +kernel
theorem kb_str_str : kitB "str" "str" = some true := by decide +kernel
theorem kb_str_list : kitB "str" "list" = some false := by decide +kernel
theorem kb_str_tuple : kitB "str" "tuple" = some false := by decide +kernel
theorem kb_list_int : kitB "list" "int" = some false := by decide +kernel
theorem kb_list_bool : kitB "list" "bool" = some false := by decide +kernel
theorem kb_list_str : kitB "list" "str" = some false := by decide +kernel
theorem kb_list_list : kitB "list" "list" = some true := by decide +kernel
theorem kb_list_tuple : kitB "list" "tuple" = some false := by decide +kernel
theorem kb_tuple_int : kitB "tuple" "int" = some false := by decide +kernel
theorem kb_tuple_bool : kitB "tuple" "bool" = some false := by decide +kernel
theorem kb_tuple_str : kitB "tuple" "str" = some false := by decide +kernel
theorem kb_tuple_list : kitB "tuple" "list" = some false := by decide +kernel
theorem kb_tuple_tuple : kitB "tuple" "tuple" = some true := by decide +kernel
theorem kb_NoneType_int : kitB "NoneType" "int" = some false := by decide +kernel
theorem kb_NoneType_bool : kitB "NoneType" "bool" = some false := by decide +kernel
theorem kb_NoneType_str : kitB "NoneType" "str" = some false := by decide +kernel
theorem kb_NoneType_list : kitB "NoneType" "list" = some false := by decide +kernel
theorem kb_NoneType_tuple : kitB "NoneType" "tuple" = some false := by decide +kernel
theorem ev_slTb {K : PySem.W.Frag} {es : Es} {ta : TE} {ds : List PyData} {tl th : TO} {lo hi : Option Int} (ha : EvE K ta es (.tuple ds)) (hl : EvO K tl es lo) (hh : EvO K th es hi) (hn : (HT.sIx ds.length 0 lo == 0 && HT.sIx ds.length ds.length hi == ds.length) = false) :
    EvE K (tSl (rSlT K) ta tl th) es (.tuple (cutD ds lo hi)) := ev_slT ha hl hh fun z => by
  rw [beq_iff_eq.mpr z.1, beq_iff_eq.mpr z.2] at hn
  cases hn
/-! items at written places -/
theorem at0 {α : Type} {d : α} {ds : List α} : atI (d :: ds) 0 = some d := atI_nat (j := 0) rfl
theorem at1 {α : Type} {d e : α} {ds : List α} : atI (d :: e :: ds) 1 = some e := atI_nat (j := 1) rfl
theorem at2 {α : Type} {a b c : α} {ds : List α} : atI (a :: b :: c :: ds) 2 = some c := atI_nat (j := 2) rfl
theorem at3 {α : Type} {a b c d : α} {ds : List α} : atI (a :: b :: c :: d :: ds) 3 = some d := atI_nat (j := 3) rfl
theorem at4 {α : Type} {a b c d e : α} {ds : List α} : atI (a :: b :: c :: d :: e :: ds) 4 = some e := atI_nat (j := 4) rfl
theorem immAll_iff : ∀ {ds : List PyData}, (∀ d ∈ ds, imm d = true) → immAll ds = true
  | [], _ => rfl
  | d :: ds, h => by
    unfold immAll
    rw [h d List.mem_cons_self, immAll_iff fun x hx => h x (List.mem_cons_of_mem _ hx)]
    rfl
theorem wipe_get (σ : L2.St) (i : Nat) : ∀ vs : List Nat, (wipe σ vs)[i]? = if i ∈ vs then (if i < σ.length then some none else none) else σ[i]?
  | [] => by rw [if_neg (by simp)]; rfl
  | v :: vs => by
    show ((wipe σ vs).set v none)[i]? = _
    by_cases e : i = v
    · subst e
      rw [if_pos (by simp), List.getElem?_set, if_pos rfl, wipe_length]
    · rw [List.getElem?_set_ne (Ne.symm e), wipe_get σ i vs]
      by_cases h : i ∈ vs
      · rw [if_pos h, if_pos (List.mem_cons_of_mem _ h)]
      · rw [if_neg h, if_neg (by simp [e, h])]
theorem wipe_set {j : Nat} {vs : List Nat} (hj : j ∈ vs) (σ : L2.St) (x : Option V) : wipe ((wipe σ vs).set j x) vs = wipe σ vs := by
  refine List.ext_getElem? fun i => ?_
  rw [wipe_get, wipe_get, List.length_set, wipe_length]
  by_cases h : i ∈ vs
  · rw [if_pos h, if_pos h]
  · rw [if_neg h, if_neg h, List.getElem?_set_ne (show j ≠ i from fun e => h (by rw [← e]; exact hj)), wipe_get, if_neg h]
end Pu

namespace Pu
open PySem PySem.Spec L2
open Evl (Ex fresh_back sz_of sz_lt ex_l ex_t rLenS rMax2 rListS)
open PyProof.Rows (envOfC list_addW)

/-! ### list + list, whoever knows them -/
def rCatA (K : PySem.W.Frag) : R2 := fun x y H Q => ∃ l b xs zs, x = .ref l ∧ y = .ref b ∧ SqL K H l xs ∧ SqL K H b zs ∧ xs.length + zs.length ≤ sizeLine ∧ ∀ p, H p = none → Q (.ref p) (upd H p (.lst (xs ++ zs)))
theorem op_catA {X : Cx} : OpR X (binaryOp .Add) (rCatA X.K) := by
  intro pins s σ H x y v u Q I rx ry h
  obtain ⟨l, b, xs, zs, rfl, rfl, hH, hB, hz, q⟩ := h
  cases rx
  cases ry
  obtain ⟨its, r, ⟨⟨c1, d1, t1, s1⟩, n, e1, hc1, hd1, ht1⟩, z1⟩ := I.list hH
  obtain ⟨its2, r2, ⟨⟨c2, d2, t2, s2⟩, n2, e2, hc2, hd2, ht2⟩, z2⟩ := I.list hB
  simp only at hc1 hd1 ht1 hc2 hd2 ht2
  subst hc1 hd1 ht1 hc2 hd2 ht2
  have l1 := r.length
  have l2 := r2.length
  refine concat_meets ⟨_, e1, rfl⟩ ⟨_, e2, rfl⟩ noFill_list_add seq_list_add PySem.F.slot_list_add PySem.F.entry_list_add (PySem.F.args_list_add_2 _ _) (list_addW l b its.toArray its2.toArray n n2 none none s1 s2 (by simp only [List.size_toArray]; omega)) ⟨e1, e2, ?_⟩
  have ea : its.toArray ++ its2.toArray = (its ++ its2).toArray := by simp
  rw [ea]
  exact ⟨.ref _, _, I.lnew (t' := s.toks) (r.append r2) (by rw [List.length_append]; omega), rfl, q _ I.fresh⟩
section
variable {K : PySem.W.Frag} {es : Es} {ta tb te tl : TE} {tc tt : TT} {t u : TS} {d e : PyData} {ds ds' : List PyData} {P : Post}
theorem ef_catA (ha : EvE K ta es (.list ds)) (hb : EvE K tb es (.list ds')) (hz : ds.length + ds'.length ≤ 100000) : EvF K (tOp (rCatA K) ta tb) es (ds ++ ds') := .mk fun {G H σ} S {H1} e1 {Q} q =>
  ha.1 S e1 fun x H2 e2 hx => hb.1 S (e1.trans e2) fun y H3 e3 hy => by
    obtain ⟨p, xs, rfl, hs, hd⟩ := dp_lst (hx.up (grow_mono e3))
    obtain ⟨p', ys, rfl, hs', hd'⟩ := dp_lst hy
    refine ⟨p, p', xs, ys, rfl, rfl, ex_l grow_ex hs, ex_l grow_ex hs', sz_of (by rw [dpa_len hd, dpa_len hd']; exact hz), fun r hr => q r _ _ (fresh_back (e2.trans e3) hr) ((e2.trans e3).trans (Evl.Ex.new hr)) upd_same ?_⟩
    exact (dpa_app hd hd').up (ex_hide (grow_mono (Evl.Ex.new hr)) (grow_none hr))

/-! ### reversed -/
theorem rev_get {α : Type} {xs : List α} {i : Nat} (h : i < xs.length) : xs.reverse[i]? = xs[xs.length - 1 - i]? := by
  rw [List.getElem?_reverse h]
theorem it_revL {G : Hp} {a : Addr} {xs : List V} (hs : SqL K G a xs) (hd : DpAll K G xs ds) : ItOk K G (Itv K a xs.length) ds.reverse where
  go := fun i H' e hi => by
    rw [List.length_reverse, ← dpa_len hd] at hi
    exact ⟨hi, xs, _, ex_l e hs, List.getElem?_eq_getElem (by omega)⟩
  yld := fun i x H' H'' e hi y => by
    obtain ⟨e1, y⟩ := y
    rw [List.length_reverse] at hi
    have hl := dpa_len hd
    obtain ⟨v, hv, hdv⟩ := dpa_at hd (i := ds.length - 1 - i) (List.getElem?_eq_getElem (by omega))
    have := y xs (ex_l e hs)
    rw [hl, hv] at this
    cases this
    exact ⟨e1, _, by rw [rev_get hi, List.getElem?_eq_getElem (by omega)], hdv⟩
  stop := fun H' e => by rw [List.length_reverse, ← dpa_len hd]; exact Nat.le_refl _
theorem it_revT {G : Hp} {a : Addr} {xs : List V} (hs : SqT K G a xs) (hd : DpAll K G xs ds) : ItOk K G (RT.ItvT K a xs.length) ds.reverse where
  go := fun i H' e hi => by
    rw [List.length_reverse, ← dpa_len hd] at hi
    exact ⟨hi, xs, _, ex_t e hs, List.getElem?_eq_getElem (by omega)⟩
  yld := fun i x H' H'' e hi y => by
    obtain ⟨e1, y⟩ := y
    rw [List.length_reverse] at hi
    have hl := dpa_len hd
    obtain ⟨v, hv, hdv⟩ := dpa_at hd (i := ds.length - 1 - i) (List.getElem?_eq_getElem (by omega))
    have := y xs (ex_t e hs)
    rw [hl, hv] at this
    cases this
    exact ⟨e1, _, by rw [rev_get hi, List.getElem?_eq_getElem (by omega)], hdv⟩
  stop := fun H' e => by rw [List.length_reverse, ← dpa_len hd]; exact Nat.le_refl _
theorem ei_revL (h : EvE K tl es (.list ds)) : EvI K (RT.iRevA K tl) es ds.reverse := .mk fun {G H σ} S {H1} e1 {R} q => h.1 S e1 fun x H2 e2 hx => by
  obtain ⟨p, xs, rfl, hs, hd⟩ := dp_lst hx
  exact ⟨p, xs, rfl, .inl ⟨ex_l grow_ex hs, q _ H2 e2 (it_revL hs hd)⟩⟩
theorem ei_revT (h : EvE K tl es (.tuple ds)) : EvI K (RT.iRevA K tl) es ds.reverse := .mk fun {G H σ} S {H1} e1 {R} q => h.1 S e1 fun x H2 e2 hx => by
  obtain ⟨p, xs, rfl, hs, hd⟩ := dp_tup hx
  exact ⟨p, xs, rfl, .inr ⟨ex_t grow_ex hs, q _ H2 e2 (it_revT hs hd)⟩⟩

/-! ### a loop over few written items, turn by turn -/
def Unr (K : PySem.W.Frag) (tb : TS) (j : Nat) (P : Post) : List PyData → Es → Prop
  | [], e => P.nx e
  | d :: r, e => Ws K tb (e.set j (.dat d)) ⟨Unr K tb j P r, P.rt, P.nx, Unr K tb j P r⟩
theorem w_forU {wi : TI} {j : Nat} {tb : TS} (h : EvI K wi es ds) (hu : Unr K tb j P ds es) : Ws K (tFor wi (gName j) tb) es P := by
  refine w_forN h (fun i e => Unr K tb j P (ds.drop i) e) hu (fun i d e hd hv => ?_) (fun e hv => ?_)
  · obtain ⟨hi, hg⟩ := List.getElem?_eq_some_iff.mp hd
    rw [List.drop_eq_getElem_cons hi, hg] at hv
    exact hv
  · rw [List.drop_length] at hv
    exact hv

/-! ### a comprehension, its items told one by one -/
theorem ef_lcX {wi : TI} {j : Nat} {vs : List Nat} (rs : List PyData) (h : EvI K wi es ds) (hz : ds.length ≤ 50000) (hj : ∀ σ x, wipe ((wipe σ vs).set j x) vs = wipe σ vs) (hl : rs.length = ds.length)
    (he : ∀ (i : Nat) (d r : PyData), ds[i]? = some d → rs[i]? = some r → EvE K te ((wipeE es vs).set j (.dat d)) r) : EvF K (tLc wi (gName j) tYes te vs) es rs := .mk fun {G H σ} S {H1} e1 {Q} q =>
  h.1 S e1 fun J H2 e2 hJ Dl hD => by
    have e12 := e1.trans e2
    have hn : H Dl = none := fresh_back e12 hD
    refine ⟨fun i m H' => m = ds.length - i ∧ i ≤ ds.length ∧ Ex H2 H' ∧ ∃ acc, H' Dl = some (.lst acc) ∧ DpAll K (hide Dl (grow G H H')) acc (rs.take i), ⟨ds.length, by simp, Nat.zero_le _, Evl.Ex.new hD, [], upd_same, .nil⟩, ?_⟩
    rintro i m H' ⟨rfl, hi, eH, acc, ha, hda⟩
    have e' : Ex H H' := e12.trans eH
    by_cases hlt : i < ds.length
    · refine .inr ⟨hJ.go i H' (grow_ex.trans eH) hlt, fun H' => ds.length - (i + 1) = ds.length - (i + 1) ∧ i + 1 ≤ ds.length ∧ Ex H2 H' ∧ ∃ acc, H' Dl = some (.lst acc) ∧ DpAll K (hide Dl (grow G H H')) acc (rs.take (i + 1)), fun H3 w => ⟨ds.length - (i + 1), by omega, w⟩, fun x H3 y => ?_⟩
      obtain ⟨rfl, d, hdi, hx⟩ := hJ.yld i x H' H3 (grow_ex.trans eH) hlt y
      have hr : rs[i]? = some rs[i] := List.getElem?_eq_getElem (by omega)
      have S2 := ((S.within hn e' ha).wipe vs).putDat j (hx.up (ex_hide (grow_mono eH) (grow_none hD)))
      have lacc : acc.length ≤ i := by
        rw [dpa_len hda, List.length_take]
        exact Nat.min_le_left _ _
      refine ⟨hj σ (some x), ?_⟩
      rw [tYes_at]
      rw [if_pos rfl]
      refine (he i d _ hdi hr).1 S2 (Evl.Ex.refl _) fun z H5 e5 hz' => ?_
      have a5 : H5 Dl = some (.lst acc) := e5 _ _ ha
      refine ⟨acc, a5, sz_lt (by omega), rfl, hlt, Evl.Ex.mut (eH.trans e5) hD, acc ++ [z], upd_same, ?_⟩
      rw [List.take_add_one, hr, hide_upd]
      exact dpa_snoc (hda.up (hide_mono (grow_mono e5))) (hz'.up (within_ex e' ha))
    · have e : i = ds.length := by omega
      subst e
      refine .inl ⟨hJ.stop H' (grow_ex.trans eH), q Dl acc H' (fresh_back e2 hD) (e2.trans eH) ha ?_⟩
      rw [← hl, List.take_length] at hda
      exact hda

/-! ### truth -/
theorem eb_truL (h : EvX K ta es (.list ds)) : EvB K (tTru K ta) es (!ds.isEmpty) := .mk fun {_ _ _} S {_} e1 {_} q => h.1 S e1 fun x H2 e2 hx => by
  obtain ⟨p, xs, rfl, hs, hd⟩ := dp_lst hx
  refine ⟨_, .inl ⟨xs, hs, rfl⟩, ?_⟩
  have e : xs.isEmpty = ds.isEmpty := by
    cases hd <;> rfl
  rw [e]
  exact q H2 e2
theorem eb_truT (h : EvX K ta es (.tuple ds)) : EvB K (tTru K ta) es (!ds.isEmpty) := .mk fun {_ _ _} S {_} e1 {_} q => h.1 S e1 fun x H2 e2 hx => by
  obtain ⟨p, xs, rfl, hs, hd⟩ := dp_tup hx
  refine ⟨_, .inr (.inl ⟨xs, hs, rfl⟩), ?_⟩
  have e : xs.isEmpty = ds.isEmpty := by
    cases hd <;> rfl
  rw [e]
  exact q H2 e2
theorem eb_truB {b : Bool} (h : EvX K ta es (.bool b)) : EvB K (tTru K ta) es b := .mk fun {_ _ _} S {_} e1 {_} q => h.1 S e1 fun x H2 e2 hx => by
  rw [dp_bl hx]
  exact ⟨b, rfl, q H2 e2⟩
theorem eb_truI {i : Int} (h : EvX K ta es (.int i)) : EvB K (tTru K ta) es (i != 0) := .mk fun {_ _ _} S {_} e1 {_} q => h.1 S e1 fun x H2 e2 hx => by
  rw [dp_int hx]
  exact ⟨_, rfl, q H2 e2⟩
/-- x is None, x is not None -/
def isNon : PyData → Bool
  | .none => true
  | _ => false
theorem ev_isN : EvX K ta es d → EvE K (tOp (fun x y H Q => y = .non ∧ Q (.bl (decide (x = .non))) H) ta (tC .non)) es (.bool (isNon d)) := fun h =>
  ev_op2 h (ev_weak ev_non) fun x y H hx hy Q q => ⟨dp_non hy, by
    have e : decide (x = V.non) = isNon d := by
      cases hx <;> rfl
    rw [e]
    exact q _ fun _ => .bl _⟩

/-! ### xs[k] = ys.pop() -/
theorem w_setPop {i k n : Nat} {z : Int} {xs : List PyData} (hik : i ≠ k) (hi : es[i]? = some (Ent.own (ds ++ [d]))) (hk : es[k]? = some (Ent.own xs)) (hb : EvX K tb (es.set i (.own ds)) (.int z)) (hz : ixN xs.length z = some n)
    (hn : P.nx ((es.set i (.own ds)).set k (.own (xs.set n d)))) : Ws K (tAsg (tBM0 K "list" rPop (tVar i)) (gSub (tVar k) tb rSetL)) es P := .mk fun {G H σ D} S kk => by
  obtain ⟨p, ys, hv, gp, hp, hd⟩ := S.own i _ hi
  have hl := dpa_len hd
  rw [List.length_append] at hl
  have hl : ys.length = ds.length + 1 := hl
  obtain ⟨v, hx, hdv⟩ := dpa_at (i := ds.length) (d := d) hd (by rw [List.getElem?_append_right (Nat.le_refl _), Nat.sub_self]; rfl)
  have hd2 : DpAll K G ys.dropLast ds := by
    have q := dpa_dropLast hd
    rw [List.dropLast_concat] at q
    exact q
  have S2 := S.write hi hv hd2
  have hk2 : (es.set i (.own ds))[k]? = some (Ent.own xs) := by rw [get_set_ne (Ne.symm hik)]; exact hk
  obtain ⟨p2, xs2, hv2, gp2, hp2, hdx⟩ := S2.own k _ hk2
  refine ⟨_, hv, .inl ⟨rfl, ys, .inl (.inl hp)⟩, p, ys, v, rfl, rfl, hp, by rw [hl]; exact hx, ?_⟩
  refine ⟨_, hv2, hb.1 S2 (Evl.Ex.refl _) fun w H3 e3 hw => ?_⟩
  refine ⟨p2, xs2, z, n, rfl, dp_int hw, e3 _ _ hp2, by rw [dpa_len hdx]; exact hz, ?_⟩
  exact kk.nx _ _ _ _ hn (ex_grow S2.ex e3) ((S2.grow e3).write hk2 hv2 (dpa_set n (hdx.up (ex_grow S2.ex e3)) (hdv.up (ex_grow S2.ex e3))))

/-! ### tables of the module: texts to tuples of ints -/
def KTup (K : PySem.W.Frag) (t : Addr) (ns : List Int) : Prop := ∃ (o : Obj) (its : Array Value) (n : Nat), K.lookup t = some o ∧ o.cls = .type "tuple" ∧ o.data = .seq its n ∧ its.size ≤ sizeLine ∧ Vals (ns.map V.int) its.toList
def DTab (K : PySem.W.Frag) (w : World) (a : Addr) (z : Str) (ns : List Int) : Prop := ∃ t, KDct K w a z (.ref t) ∧ KTup K t ns
theorem ev_ixD {w : World} {a : Addr} {z : Str} {ns : List Int} (hb : EvX K tb es (.str z)) (h : DTab K w a z ns) : EvE K (tOp (rIxD K w) (tC (.ref a)) tb) es (.tuple (ns.map PyData.int)) := .mk fun {G H σ} S {H1} e1 {Q} q =>
  hb.1 S e1 fun y H3 e3 hy => by
    obtain ⟨t, hk, ht⟩ := h
    exact ⟨a, z, .ref t, rfl, dp_str hy, hk, q _ H3 e3 (.tup (.inr ht) dpa_mkInts)⟩
theorem dtab_mk {w : World} {a t : Addr} {z : Str} {ns : List Int} {es : Array DictEntry} {n n2 : Nat} {its : Array Value} {dd : Option Addr} {sl : Array (Option Value)} (hl : K.lookup a = some ⟨.type "dict", none, .dict es n, #[]⟩) (hk : PySem.W.KeysLit w.params es.toList)
    (he : PySem.W.nsIn K a z = some (some (.ref t))) (ht : K.lookup t = some ⟨.type "tuple", dd, .seq its n2, sl⟩) (hz : its.size ≤ sizeLine) (hv : Vals (ns.map V.int) its.toList) : DTab K w a z ns :=
  ⟨t, ⟨es, n, _, hl, hk, he, rfl⟩, _, its, n2, ht, rfl, rfl, hz, hv⟩

/-! ### x in [texts] -/
theorem inV_strs {x : Str} : ∀ {ss : List Str}, inV (.str x) (ss.map V.str) = ss.any fun y => y == x
  | [] => rfl
  | s :: ss => by
    show (eqV (.str s) (.str x) || inV (.str x) (ss.map V.str)) = ((s == x) || ss.any fun y => y == x)
    rw [inV_strs]
    rfl
theorem flat_strs : ∀ {ss : List Str}, (ss.map V.str).all flatV = true
  | [] => rfl
  | s :: ss => by
    show (true && (ss.map V.str).all flatV) = true
    rw [flat_strs]
    rfl
theorem dpa_strs {H : Hp} : ∀ {ss : List Str} {xs : List V}, DpAll K H xs (ss.map PyData.str) → xs = ss.map V.str
  | [], _, h => dpa_nil h
  | n :: ns, _, h => by
    obtain ⟨v, r, rfl, a, b⟩ := dpa_cons h
    rw [dp_str a, dpa_strs b]
    rfl
theorem ev_inS {x : Str} {ss : List Str} (ha : EvX K ta es (.str x)) (hb : EvX K tb es (.list (ss.map PyData.str))) : EvE K (tOp (rIn K false) ta tb) es (.bool (ss.any fun y => y == x)) :=
  ev_op2 ha hb fun v y H hv hy Q q => by
    obtain ⟨p, xs, rfl, hs, hd⟩ := dp_lst hy
    rw [dp_str hv]
    rw [dpa_strs hd] at hs
    refine ⟨p, _, rfl, .inl hs, rfl, flat_strs, ?_⟩
    show Q (.bl (inV (.str x) (ss.map V.str))) H
    rw [inV_strs]
    exact q _ fun _ => .bl _

/-! ### the last items, all but the last -/
theorem at_m1 {α : Type} {s : List α} {a : α} : atI (s ++ [a]) (-1) = some a := atI_last s a
theorem at_back {α : Type} {s r : List α} {a : α} {k : Int} (hk : k = -((r.length : Int) + 1)) : atI (s ++ a :: r) k = some a := by
  have hl : (s ++ a :: r).length = s.length + (r.length + 1) := by rw [List.length_append, List.length_cons]
  have e : ixN (s ++ a :: r).length k = some s.length := by
    unfold ixN
    rw [hl, if_neg (by omega), if_pos (by omega)]
    congr 1
    omega
  unfold atI
  rw [e]
  show (s ++ a :: r)[s.length]? = some a
  rw [List.getElem?_append_right (Nat.le_refl _), Nat.sub_self]
  rfl
theorem at_m2 {α : Type} {s : List α} {a b : α} : atI (s ++ [a, b]) (-2) = some a := at_back rfl
theorem at_m1' {α : Type} {s : List α} {a b : α} : atI (s ++ [a, b]) (-1) = some b := by
  have h : s ++ [a, b] = (s ++ [a]) ++ [b] := by simp
  rw [h]
  exact at_m1
theorem at_m3 {α : Type} {s : List α} {a b c : α} : atI (s ++ [a, b, c]) (-3) = some a := at_back rfl
theorem at_m2' {α : Type} {s : List α} {a b c : α} : atI (s ++ [a, b, c]) (-2) = some b := by
  have h : s ++ [a, b, c] = (s ++ [a]) ++ [b, c] := by simp
  rw [h]
  exact at_m2
theorem at_m1'' {α : Type} {s : List α} {a b c : α} : atI (s ++ [a, b, c]) (-1) = some c := by
  have h : s ++ [a, b, c] = (s ++ [a, b]) ++ [c] := by simp
  rw [h]
  exact at_m1
theorem cut_back {s r : List PyData} {k : Int} (hk : k = -(r.length : Int)) (h0 : k < 0) : cutD (s ++ r) none (some k) = s := by
  unfold cutD
  have e : HT.sIx (s ++ r).length (s ++ r).length (some k) = s.length := by
    show (if k < 0 then (k + ((s ++ r).length : Int)).toNat else _) = _
    rw [if_pos h0, List.length_append]
    omega
  rw [e, HT.sIx_none, Nat.sub_zero, List.drop_zero, List.take_left']
  rfl
theorem cut_fix {s : List PyData} {a b : Nat} : cutD s (some (a : Nat)) (some (b : Nat)) = (s.drop a).take (b - a) := by
  unfold cutD
  rw [HT.sIx_nat, HT.sIx_nat]
  by_cases h : a ≤ s.length
  · rw [show min a s.length = a by omega]
    by_cases h2 : b ≤ s.length
    · rw [show min b s.length = b by omega]
    · rw [show min b s.length = s.length by omega, List.take_of_length_le (by rw [List.length_drop]; omega), List.take_of_length_le (by rw [List.length_drop]; omega)]
  · rw [show min a s.length = s.length by omega, List.drop_eq_nil_of_le (Nat.le_refl _), List.drop_eq_nil_of_le (show s.length ≤ a by omega), List.take_nil, List.take_nil]
end
/-! the same rules with the written part named (within a comprehension) -/
theorem pt_tru {X : Cx} {K : PySem.W.Frag} {a : Expr} {ta : TE} (h : X.K = K) (ha : PE X a ta) (he : ∀ whole, isTrue a X.env whole = (do let v ← whole; standAt a.pos; holding [v] (truthy v))) : PT X a (tTru K ta) := by
  subst h
  exact pt_truth ha he
theorem ix_tupK {X : Cx} {K : PySem.W.Frag} (h : X.K = K) : IxR X (rIxT K) := h ▸ ix_tup
theorem ix_listK {X : Cx} {K : PySem.W.Frag} (h : X.K = K) : IxR X (rIxL K) := h ▸ ix_list
theorem op_eqDK {X : Cx} {K : PySem.W.Frag} (h : X.K = K) (hu : X.A.units + 64 < cLine) : OpR X (compareOp .Eq) (rEqD K) := h ▸ op_eqD hu
theorem op_neDK {X : Cx} {K : PySem.W.Frag} (h : X.K = K) (hu : X.A.units + 64 < cLine) : OpR X (compareOp .NotEq) (rNeD K) := h ▸ op_neD hu
theorem call_isiKK {X : Cx} {K : PySem.W.Frag} (h : X.K = K) : CallR X (.builtin "isinstance") (rIsi K) := h ▸ call_isi
theorem call_len_seqK {X : Cx} {K : PySem.W.Frag} (h : X.K = K) : CallR X (.builtin "len") (rLenS K) := h ▸ call_len_seq
theorem ix_kdictK {X : Cx} {K : PySem.W.Frag} {w : World} (h : X.K = K) (h2 : X.w = w) : IxR X (rIxD K w) := h ▸ h2 ▸ ix_kdict
end Pu

/-! rules as data of our own -/
namespace Pr
open PySem PySem.Spec L2 Pu
structure Rf where
  r : Int
  c : Int
  rs : Bool
  cs : Bool
def Rf.d (x : Rf) : PyData := .tuple [.int x.r, .int x.c, .bool x.rs, .bool x.cs]
inductive Rl where
  | num (n : Int)
  | cell (p : Rf)
  | add (a b : Rl)
  | sub (a b : Rl)
  | mul (a b : Rl)
  | pick (a b c : Rl)
  | sum (p q : Rf)
  | most (p q : Rf)
  | look (a : Rl) (p q : Rf) (b : Rl)
namespace Rl
def d : Rl → PyData
  | num n => .tuple [.str "num", .int n]
  | cell p => .tuple [.str "cell", p.d]
  | add a b => .tuple [.str "add", a.d, b.d]
  | sub a b => .tuple [.str "sub", a.d, b.d]
  | mul a b => .tuple [.str "mul", a.d, b.d]
  | pick a b c => .tuple [.str "pick", a.d, b.d, c.d]
  | sum p q => .tuple [.str "sum", p.d, q.d]
  | most p q => .tuple [.str "most", p.d, q.d]
  | look a p q b => .tuple [.str "look", a.d, p.d, q.d, b.d]
def inner : Rl → List Rl
  | num _ => []
  | cell _ => []
  | add a b => [a, b]
  | sub a b => [a, b]
  | mul a b => [a, b]
  | pick a b c => [a, b, c]
  | sum _ _ => []
  | most _ _ => []
  | look a _ _ b => [a, b]
def size : Rl → Nat
  | num _ => 1
  | cell _ => 1
  | add a b => a.size + b.size + 1
  | sub a b => a.size + b.size + 1
  | mul a b => a.size + b.size + 1
  | pick a b c => a.size + b.size + c.size + 1
  | sum _ _ => 1
  | most _ _ => 1
  | look a _ _ b => a.size + b.size + 1
/-- itself, then what stands within it, from the right -/
def outer : Rl → List Rl
  | num n => [num n]
  | cell p => [cell p]
  | add a b => add a b :: (b.outer ++ a.outer)
  | sub a b => sub a b :: (b.outer ++ a.outer)
  | mul a b => mul a b :: (b.outer ++ a.outer)
  | pick a b c => pick a b c :: (c.outer ++ (b.outer ++ a.outer))
  | sum p q => [sum p q]
  | most p q => [most p q]
  | look a p q b => look a p q b :: (b.outer ++ a.outer)
theorem outer_eq (r : Rl) : r.outer = r :: r.inner.reverse.flatMap outer := by
  cases r <;> simp [outer, inner]
theorem outer_len (r : Rl) : r.outer.length = r.size := by
  induction r with
  | num _ => rfl
  | cell _ => rfl
  | sum _ _ => rfl
  | most _ _ => rfl
  | add a b h1 h2 => simp only [outer, size, List.length_cons, List.length_append]; omega
  | sub a b h1 h2 => simp only [outer, size, List.length_cons, List.length_append]; omega
  | mul a b h1 h2 => simp only [outer, size, List.length_cons, List.length_append]; omega
  | pick a b c h1 h2 h3 => simp only [outer, size, List.length_cons, List.length_append]; omega
  | look a p q b h1 h2 => simp only [outer, size, List.length_cons, List.length_append]; omega
theorem size_pos (r : Rl) : 0 < r.size := by
  cases r <;> simp only [size] <;> omega
theorem size_inner (r : Rl) : r.size = (r.inner.map size).sum + 1 := by
  cases r <;> simp [size, inner] <;> omega
theorem imm_d (r : Rl) : imm r.d = true := by
  induction r with
  | num _ => rfl
  | cell _ => rfl
  | sum _ _ => rfl
  | most _ _ => rfl
  | add a b h1 h2 => simp [d, imm, immAll, h1, h2]
  | sub a b h1 h2 => simp [d, imm, immAll, h1, h2]
  | mul a b h1 h2 => simp [d, imm, immAll, h1, h2]
  | pick a b c h1 h2 h3 => simp [d, imm, immAll, h1, h2, h3]
  | look a p q b h1 h2 => simp [d, imm, immAll, h1, h2, Rf.d]
theorem imm_all (rs : List Rl) : immAll (rs.map d) = true := immAll_iff fun x hx => by
  obtain ⟨r, _, rfl⟩ := List.mem_map.mp hx
  exact imm_d r
theorem len_le (W : List Rl) : W.length ≤ (W.map size).sum := by
  induction W with
  | nil => exact Nat.le_refl _
  | cons r W ih =>
    rw [List.length_cons, List.map_cons, List.sum_cons]
    have := size_pos r
    omega
theorem flat_len (W : List Rl) : (W.reverse.flatMap outer).length = (W.map size).sum := by
  rw [List.length_flatMap, List.map_reverse, List.sum_reverse]
  congr 1
  exact List.map_congr_left fun r _ => outer_len r
end Rl
/-- the item of a tuple at a place -/
def gx (ds : List PyData) : PyData → PyData
  | .int k => (atI ds k).getD .none
  | _ => .none
/-! the script's cells -/
def cell (ns : List Int) (k : Nat) : Int := ns.getD k 0
theorem ints_at {ns : List Int} {k : Nat} (h : k < ns.length) : atI (ns.map PyData.int) (k : Nat) = some (.int (cell ns k)) := by
  refine atI_nat ?_
  rw [List.getElem?_map, List.getElem?_eq_getElem h]
  unfold cell
  rw [List.getD_eq_getElem?_getD, List.getElem?_eq_getElem h]
  rfl
/-! ### what stands in a rule's tuple -/
inductive Pt where
  | s (x : Str)
  | i (n : Int)
  | b (x : Bool)
  | rf (x : Rf)
  | rl (r : Rl)
def Pt.d : Pt → PyData
  | .s x => .str x
  | .i n => .int n
  | .b x => .bool x
  | .rf x => x.d
  | .rl r => r.d
def Rl.parts : Rl → List Pt
  | .num n => [.s "num", .i n]
  | .cell p => [.s "cell", .rf p]
  | .add a b => [.s "add", .rl a, .rl b]
  | .sub a b => [.s "sub", .rl a, .rl b]
  | .mul a b => [.s "mul", .rl a, .rl b]
  | .pick a b c => [.s "pick", .rl a, .rl b, .rl c]
  | .sum p q => [.s "sum", .rf p, .rf q]
  | .most p q => [.s "most", .rf p, .rf q]
  | .look a p q b => [.s "look", .rl a, .rf p, .rf q, .rl b]
theorem Rl.d_parts (r : Rl) : r.d = .tuple (r.parts.map Pt.d) := by cases r <;> rfl
theorem Rl.parts_len (r : Rl) : r.parts.length ≤ 5 := by cases r <;> exact Nat.le_of_ble_eq_true rfl
def Rf.parts (x : Rf) : List Pt := [.i x.r, .i x.c, .b x.rs, .b x.cs]
theorem ty_rl (r : Rl) : tyName r.d = "tuple" := by cases r <;> rfl
theorem kb_rl_tuple (r : Rl) : kitB (tyName r.d) "tuple" = some true := by rw [ty_rl]; exact kb_tuple_tuple
theorem kb_rl_bool (r : Rl) : kitB (tyName r.d) "bool" = some false := by rw [ty_rl]; exact kb_tuple_bool
theorem kb_rl_int (r : Rl) : kitB (tyName r.d) "int" = some false := by rw [ty_rl]; exact kb_tuple_int
theorem kb_rl_str (r : Rl) : kitB (tyName r.d) "str" = some false := by rw [ty_rl]; exact kb_tuple_str
/-- how deep the tuples stand -/
def Rl.dep : Rl → Nat
  | .num _ => 1
  | .cell _ => 2
  | .add a b => max a.dep b.dep + 1
  | .sub a b => max a.dep b.dep + 1
  | .mul a b => max a.dep b.dep + 1
  | .pick a b c => max a.dep (max b.dep c.dep) + 1
  | .sum _ _ => 2
  | .most _ _ => 2
  | .look a _ _ b => max a.dep b.dep + 1
theorem Rl.dep_pos (r : Rl) : 1 ≤ r.dep := by cases r <;> simp only [Rl.dep] <;> omega
theorem Rl.dep_size (r : Rl) : r.dep ≤ r.size + 1 := by
  induction r with
  | num _ => simp only [Rl.dep, Rl.size]; omega
  | cell _ => simp only [Rl.dep, Rl.size]; omega
  | sum _ _ => simp only [Rl.dep, Rl.size]; omega
  | most _ _ => simp only [Rl.dep, Rl.size]; omega
  | add a b h1 h2 => have := a.size_pos; have := b.size_pos; simp only [Rl.dep, Rl.size]; omega
  | sub a b h1 h2 => have := a.size_pos; have := b.size_pos; simp only [Rl.dep, Rl.size]; omega
  | mul a b h1 h2 => have := a.size_pos; have := b.size_pos; simp only [Rl.dep, Rl.size]; omega
  | pick a b c h1 h2 h3 => have := a.size_pos; have := b.size_pos; have := c.size_pos; simp only [Rl.dep, Rl.size]; omega
  | look a p q b h1 h2 => have := a.size_pos; have := b.size_pos; simp only [Rl.dep, Rl.size]; omega
def Pt.dep : Pt → Nat
  | .s _ => 0
  | .i _ => 0
  | .b _ => 0
  | .rf _ => 1
  | .rl r => r.dep
theorem Rl.parts_dep (r : Rl) : ∀ p ∈ r.parts, p.dep < r.dep := by
  cases r with
  | num n => simp [Rl.parts, Pt.dep, Rl.dep]
  | cell p => simp [Rl.parts, Pt.dep, Rl.dep]
  | sum p q => simp [Rl.parts, Pt.dep, Rl.dep]
  | most p q => simp [Rl.parts, Pt.dep, Rl.dep]
  | add a b => simp [Rl.parts, Pt.dep, Rl.dep]; omega
  | sub a b => simp [Rl.parts, Pt.dep, Rl.dep]; omega
  | mul a b => simp [Rl.parts, Pt.dep, Rl.dep]; omega
  | pick a b c => simp [Rl.parts, Pt.dep, Rl.dep]; omega
  | look a p q b => have := a.dep_pos; simp [Rl.parts, Pt.dep, Rl.dep]; omega
theorem Pt.imm_d (p : Pt) : imm p.d = true := by
  cases p with
  | rl r => exact r.imm_d
  | _ => rfl
end Pr

/-! own layer: sets of tuples of ints of any sign, put in order -/
namespace Pu
open PySem PySem.Spec L2
open Evl (Ex fresh_back sz_of sz_lt ex_l ex_t)
open PyProof.Rows

/-! ### the order of pairs, as a number -/
/-- two ints, the second one small -/
def Pr2 (ns : List Int) : Prop := ∃ x y : Int, ns = [x, y] ∧ -500 < y ∧ y < 500
def rk2 : List Int → Int
  | [x, y] => x * 1000 + y
  | _ => 0
theorem rk2_lt {x y u v : Int} (h1 : -500 < y ∧ y < 500) (h2 : -500 < v ∧ v < 500) (h : x < u) : rk2 [x, y] < rk2 [u, v] := by
  show x * 1000 + y < u * 1000 + v
  omega
section
variable {prog : Program} {w : World} {A : Around} {E : Value → Shared → Prop} {s : Shared}
theorem lex_two {b : Bool} {xs ys : List Value} {ns ms : List Int} {Q : Bool → Shared → Prop} (hx : IntsAre xs ns) (hy : IntsAre ys ms) (p1 : Pr2 ns) (p2 : Pr2 ms) (h : Q (decide (rk2 ns < rk2 ms)) s) : PySem.W.KatLex prog w A b false Q (xs.zip ys) 0 s := by
  obtain ⟨x, y, rfl, hy1⟩ := p1
  obtain ⟨u, v, rfl, hv1⟩ := p2
  cases hx with
  | cons _ t hx =>
    cases hx with
    | cons _ t2 hx =>
      cases hx
      cases hy with
      | cons _ r hy =>
        cases hy with
        | cons _ r2 hy =>
          cases hy
          refine PySem.W.kat_cons (wpAny_eqBool_int ?_)
          by_cases e : x = u
          · subst e
            rw [beq_self_eq_true]
            refine PySem.W.kat_yes (PySem.W.kat_cons (wpAny_eqBool_int ?_))
            have d : decide (rk2 [x, y] < rk2 [x, v]) = decide (y < v) := decide_eq_decide.mpr (by
              show x * 1000 + y < x * 1000 + v ↔ y < v
              omega)
            rw [d] at h
            by_cases e2 : y = v
            · subst e2
              rw [beq_self_eq_true]
              rw [decide_eq_false (Int.lt_irrefl y)] at h
              exact PySem.W.kat_yes (PySem.W.kat_nil h)
            · rw [show (y == v) = false from beq_eq_false_iff_ne.mpr e2]
              exact PySem.W.kat_no (TS.oneLt_ints _ h)
          · rw [show (x == u) = false from beq_eq_false_iff_ne.mpr e]
            refine PySem.W.kat_no (TS.oneLt_ints _ ?_)
            have d : decide (rk2 [x, y] < rk2 [u, v]) = decide (x < u) := decide_eq_decide.mpr (by
              show x * 1000 + y < u * 1000 + v ↔ x < u
              omega)
            rw [d] at h
            exact h
/-- pairs that stand in the heap -/
def Prs (h : Heap) (vs : List Value) : Prop := ∀ v ∈ vs, ∃ ns, TS.TupInts h v ns ∧ Pr2 ns
theorem prs_firsts {h : Heap} : ∀ {vs : List Value}, Prs h vs → ∃ fs, PySem.W.KatTups h vs fs ∧ fs.length = vs.length ∧ ∀ f ∈ fs, ∃ n t, f = Value.int n t
  | [], _ => ⟨[], .nil, rfl, fun f hf => nomatch hf⟩
  | v :: vs, x => by
    obtain ⟨fs, k, hl, hi⟩ := prs_firsts fun u hu => x u (List.mem_cons_of_mem _ hu)
    obtain ⟨ns, ⟨a, xs, rfl, ⟨o, ho, hc, n, hd⟩, i⟩, p, q, rfl, _⟩ := x v List.mem_cons_self
    obtain ⟨y, ys, e, m, t, hy⟩ : ∃ y ys, xs.toList = y :: ys ∧ ∃ m t, y = Value.int m t := by
      generalize xs.toList = l at i
      cases i with
      | cons d t i => exact ⟨_, _, rfl, _, _, rfl⟩
    refine ⟨y :: fs, .cons ho hc hd ?_ k, by rw [List.length_cons, List.length_cons, hl], fun f hf => ?_⟩
    · have z := congrArg (fun l : List Value => l[0]?) e
      simpa using z
    · rcases List.mem_cons.mp hf with rfl | hf
      · exact ⟨m, t, hy⟩
      · exact hi f hf
theorem kind_prs {vs : List Value} (h2 : 2 ≤ vs.length) (x : Prs s.heap vs) (r : Value → Int) (hr : ∀ v ∈ vs, ∀ ns, TS.TupInts s.heap v ns → r v = rk2 ns) (Q : SortKind → Shared → Prop) (h : ∀ κ, TS.Cmp prog w A s κ (pairsOf vs) r → Q κ s) :
    wpAny (model prog w) A (keyKind' vs.toArray) Q E s := by
  obtain ⟨fs, k, hl, hi⟩ := prs_firsts x
  refine PySem.W.kat_kind (T := .type "int") k (by omega) (fun f hf => ?_) rfl (h _ fun p q hp hq Q' E' hQ => ?_)
  · obtain ⟨n, t, rfl⟩ := hi f hf
    exact .of_pure rfl
  rw [pairsOf_toList] at hp hq
  have mp := (mem_zip_self hp).2
  have mq := (mem_zip_self hq).2
  obtain ⟨ns, tp, bp⟩ := x _ mp
  obtain ⟨ms, tq, bq⟩ := x _ mq
  rw [hr _ mp _ tp, hr _ mq _ tq] at hQ
  obtain ⟨a, xs, e1, ⟨o, ho, hc, n, hd⟩, i⟩ := tp
  obtain ⟨b, ys, e2, ⟨o', ho', hc', n', hd'⟩, i'⟩ := tq
  rw [e1, e2]
  refine PySem.W.kat_lt ho hd ho' hd' ?_
  have l1 : xs.size = 2 := by
    have := i.length
    obtain ⟨_, _, rfl, _⟩ := bp
    simpa using this
  have l2 : ys.size = 2 := by
    have := i'.length
    obtain ⟨_, _, rfl, _⟩ := bq
    simpa using this
  rw [l1, l2]
  exact lex_two i i' bp bq hQ
theorem Prs.keeps {h h' : Heap} {vs : List Value} (x : Prs h vs) (k : ∀ b o, h.get? b = some o → o.cls = .type "tuple" → h'.get? b = some o) : Prs h' vs := fun v hv => by
  obtain ⟨ns, t, p⟩ := x v hv
  exact ⟨ns, t.keeps k, p⟩
/-- xs.sort(), xs a list of pairs -/
theorem sort_prs {a : Addr} {vs : List Value} {n : Nat} {Q : Value → Shared → Prop} (ho : s.heap.get? a = some (seqObj "list" vs.toArray n)) (h64 : vs.length < 64) (x : Prs s.heap vs)
    (h : ∀ out : Array Value, out.toList.Perm vs → out.toList.Pairwise (fun u v => rk2 (TS.intsOf s.heap u) ≤ rk2 (TS.intsOf s.heap v)) → Q .none { s with heap := sortedHeap s.heap a vs out }) :
    wpAny (model prog w) A (call (.builtin "list.sort") [.ref a]) Q E s := by
  refine wpAny_call_entry slot_list_sort ⟨_, ho, rfl⟩ entry_list_sort ?_ (args_list_sort _)
  have keep : ∀ b o, s.heap.get? b = some o → o.cls = .type "tuple" → (TS.midHeap s.heap a vs).get? b = some o := fun b o e hc => TS.midHeap_old (fun z => by
    rw [z, ho] at e
    cases e
    injection hc with hc
    exact absurd hc (by decide)) e
  refine SK.plain_sort (r := fun v => rk2 (TS.intsOf s.heap v)) ho h64 (fun h2 R hR => kind_prs (s := { s with heap := TS.midHeap s.heap a vs }) h2 (x.keeps keep) _ (fun v hv ns t => ?_) R hR) fun ps out h1 h2 h3 => ⟨_, rfl, ?_⟩
  · obtain ⟨ns0, t0, _⟩ := x v hv
    show rk2 (TS.intsOf s.heap v) = rk2 ns
    rw [t0.ints, ← (t0.keeps keep).ints, t.ints]
  · obtain ⟨p, q⟩ := TS.out_rank (r := fun v => rk2 (TS.intsOf s.heap v)) h1 h2 h3
    exact h out p q

/-! ### sorted of a set of pairs -/
theorem refs_of {L : List (Addr × List Int)} : ∀ {vs : List Value}, (∀ v ∈ vs, ∃ q ∈ L, v = Value.ref q.1) → ∃ M : List (Addr × List Int), vs = M.map (fun q => Value.ref q.1) ∧ ∀ q ∈ M, q ∈ L
  | [], _ => ⟨[], rfl, fun q h => nomatch h⟩
  | v :: vs, h => by
    obtain ⟨q, hq, rfl⟩ := h v List.mem_cons_self
    obtain ⟨M, rfl, hM⟩ := refs_of fun u hu => h u (List.mem_cons_of_mem _ hu)
    exact ⟨q :: M, rfl, List.forall_mem_cons.mpr ⟨hq, hM⟩⟩
theorem refs_perm {h : Heap} {P : Program} {w : World} {L M : List (Addr × List Int)} (nd : (L.map (·.2)).Nodup) (ht : ∀ q ∈ L, IsT P w h q.2 q.1) (hM : ∀ q ∈ M, q ∈ L) (pm : (M.map fun q => Value.ref q.1).Perm (L.map fun q => Value.ref q.1)) : M.Perm L := by
  have one : ∀ q ∈ L, ∀ r ∈ L, q.1 = r.1 → q = r := fun q hq r hr e => by
    have h1 := ht q hq
    rw [e] at h1
    exact Prod.ext e (h1.inj (ht r hr))
  have nL : L.Nodup := nodup_of_map nd
  have nR : (L.map fun q => Value.ref q.1).Nodup := List.pairwise_map.mpr (nL.imp_of_mem fun {q r} hq hr hne e => hne (one q hq r hr (Value.ref.inj e)))
  refine (List.perm_ext_iff_of_nodup (nodup_of_map (pm.nodup_iff.mpr nR)) nL).mpr fun q => ⟨hM q, fun hq => ?_⟩
  obtain ⟨r, hr, e⟩ := List.mem_map.mp (pm.mem_iff.mpr (List.mem_map.mpr ⟨q, hq, rfl⟩))
  rw [← one r (hM r hr) q hq (Value.ref.inj e)]
  exact hr
theorem sorted_prs {a : Addr} {L : List (Addr × List Int)} {es : Array (Int × Value)} {ep : Nat} {t : SetTable} {Q : Value → Shared → Prop} (R : SetTR prog w s.heap a L es ep t) (hh : A.handled = none) (hp : ∀ q ∈ L, Pr2 q.2)
    (hQ : ∀ (s' : Shared) (p : Addr) (out : Array Value) (c : Nat) (M : List (Addr × List Int)), (∀ b o, s.heap.get? b = some o → s'.heap.get? b = some o) → s'.gens = s.gens → s'.os = s.os → s.heap.objs.size ≤ p →
      s'.heap.get? p = some (seqObj "list" out c) → out.toList = M.map (fun q => Value.ref q.1) → M.Perm L → M.Pairwise (fun q r => rk2 q.2 ≤ rk2 r.2) → Q (.ref p) s') :
    wpAny (model prog w) A (call (.builtin "sorted") [.ref a]) Q E s := by
  obtain ⟨o, ho, hex, hd⟩ := R.ob
  have few := R.few
  have sz := R.size
  refine Calls.call_function_entry kind_sorted plain_sorted entry_sorted (args_sorted1 _) ?_
  unfold Builtin.«sorted»
  refine wpAny_bind (m := checkCount "sorted" 1 1 _) (wpAny_pure ?_)
  refine wpAny_bind (collect_set (A := A.in1) hh ⟨o, ho, hex.1, hd⟩ R.fits (by unfold scanBound; omega) R.tab.ris R.led fun s1 vs k1 hz g1 o1 pm => ?_)
  have hes : es.toList.map (·.2) = L.map fun q => Value.ref q.1 := by rw [R.rows, rowsOf, List.map_map]; rfl
  rw [hes] at pm
  have hvl : vs.length < 64 := by rw [pm.length_eq, List.length_map]; exact few
  refine wpAny_bind (wpAny_newList ?_ (by rw [sizeLine_eq]; omega))
  generalize hs2 : ({ s1 with heap := s1.heap.push (seqObj "list" vs.toArray 0) } : Shared) = s2
  have h2 : s2.heap = s1.heap.push (seqObj "list" vs.toArray 0) := by rw [← hs2]
  have hoL : s2.heap.get? s1.heap.objs.size = some (seqObj "list" vs.toArray 0) := by rw [h2]; exact Heap.get?_push_size _ rfl
  have tk : ∀ q ∈ L, TS.TupInts s2.heap (.ref q.1) q.2 := fun q hq => tupInts_of (P := prog) (w := w) (isT_keep (R.tup q hq) fun b u e => by rw [h2]; exact Heap.get?_push_of_some _ (k1 b u e))
  have x : Prs s2.heap vs := fun v hv => by
    obtain ⟨q, hq, rfl⟩ := List.mem_map.mp (pm.mem_iff.mp hv)
    exact ⟨q.2, tk q hq, hp q hq⟩
  refine wpAny_bind (wpAny_holding (sort_prs (s := s2) hoL hvl x fun out a1 a2 => ?_))
  obtain ⟨c, hc⟩ := sortedHeap_at (vs := vs) (out := out) hoL
  obtain ⟨M, e', hM⟩ := refs_of (L := L) (vs := out.toList) fun v hv => by
    obtain ⟨q, hq, e⟩ := List.mem_map.mp (pm.mem_iff.mp (a1.mem_iff.mp hv))
    exact ⟨q, hq, e.symm⟩
  have pL := refs_perm R.nd R.tup hM (by rw [← e']; exact a1.trans pm)
  have pw : M.Pairwise (fun q r => rk2 q.2 ≤ rk2 r.2) := by
    rw [e'] at a2
    refine (List.pairwise_map.mp a2).imp_of_mem fun {q r} hq hr hle => ?_
    rw [(tk q (hM q hq)).ints, (tk r (hM r hr)).ints] at hle
    exact hle
  subst hs2
  refine wpAny_pure ⟨_, rfl, hQ _ s1.heap.objs.size out c M (fun b u e => ?_) g1 o1 hz hc e' pL pw⟩
  have lt := Heap.lt_size (k1 b u e)
  show (sortedHeap (s1.heap.push (seqObj "list" vs.toArray 0)) s1.heap.objs.size vs out).get? b = some u
  rw [sortedHeap_old (Nat.ne_of_lt lt) (by rw [size_push']; exact Nat.lt_succ_of_lt lt)]
  exact Heap.get?_push_of_some _ (k1 b u e)
end
section
variable {X : Cx}
/-- sorted(set), the set one of pairs -/
def rSortP (K : PySem.W.Frag) (P : Program) (w : World) : List V → Hp → VK → Prop := fun vs H Q => ∃ (a : Addr) (L : List (Addr × List Int)), vs = [V.ref a] ∧ H a = some (SetTO P w a L) ∧ (∀ p ∈ L, SqT K H p.1 (p.2.map V.int) ∧ Pr2 p.2) ∧
  ∀ (M : List (Addr × List Int)) (p : Addr), M.Perm L → (M.map (·.2)).Nodup → M.length < 64 → M.Pairwise (fun q r => rk2 q.2 ≤ rk2 r.2) → H p = none → Q (.ref p) (upd H p (.lst (M.map fun q => V.ref q.1)))
theorem cr_sortP (hc : X.calm = true) : CallR X (.builtin "sorted") (rSortP X.K X.prog X.w) := by
  intro pins s σ H vs us Q I r h
  obtain ⟨a, L, rfl, ha, hk, q⟩ := h
  have R0 : SetT0 X.prog X.w s.heap a L := (I.hok a _ ha).1
  obtain ⟨es, ep, t, R⟩ := R0.full fun p hp => I.isT (hk p hp).1
  rw [Vals.ref1 r]
  refine sorted_prs R (I.ok.hd hc) (fun p hp => (hk p hp).2) fun s' p out c M k g o hp hg hout pm pw => ?_
  have hf : M.length < 64 := by rw [pm.length_eq]; exact R.few
  have J : Inv X pins σ (upd H p (.lst (M.map fun q => V.ref q.1))) { s with heap := s'.heap, gens := s'.gens, drawn := s'.drawn, toks := s'.toks } :=
    I.call (ch := []) (Un.laid k hp (I.hok.fresh hp)) (I.hok.laid k hp ⟨by rw [List.length_map, sizeLine_eq]; omega, out.toList, c, by rw [hout]; exact vals_of_refs M, hg⟩) (by rw [g]; exact I.bare) (fun _ z => nomatch z)
  have e : s' = { s with heap := s'.heap, gens := s'.gens, drawn := s'.drawn, toks := s'.toks } := by
    cases s'
    cases s
    cases o
    rfl
  rw [e]
  exact ⟨.ref p, _, J, rfl, q M p pm ((pm.map (·.2)).nodup_iff.mpr R.nd) hf pw (I.hok.fresh hp)⟩
/-- found.add(place) -/
theorem addT_ok {pins : List (Addr × Obj)} {σ : L2.St} {H : Hp} {s : Shared} {E : Value → Shared → Prop} {D x : Addr} {L : List (Addr × List Int)} {k : List Int} {Q : Value → Shared → Prop} (I : Inv X pins σ H s) (hu : X.A.units + 64 < cLine)
    (hD : H D = some (SetTO X.prog X.w D L)) (hL : ∀ p ∈ L, SqT X.K H p.1 (p.2.map V.int)) (hx : SqT X.K H x (k.map V.int)) (few : L.length + 1 < 64)
    (h : ∀ L' s', (k ∈ L.map (·.2) → L' = L) → (k ∉ L.map (·.2) → L'.Perm ((x, k) :: L)) → Inv X pins σ (upd H D (SetTO X.prog X.w D L')) s' → Q .none s') :
    wpAny (model X.prog X.w) X.A (call (.builtin "set.add") [.ref D, .ref x]) Q E s := by
  have R0 : SetT0 X.prog X.w s.heap D L := (I.hok D _ hD).1
  obtain ⟨es, ep, t, R⟩ := R0.full fun p hp => I.isT (hL p hp)
  have hxT := I.isT hx
  have hu1 : X.A.in1.units < cLine := by show X.A.units + 1 < cLine; omega
  obtain ⟨o, ho, hex, hd⟩ := R.ob
  refine wpAny_call_entry PySem.F.slot_set_add ⟨o, ho, hex.1⟩ PySem.F.entry_set_add ?_ (PySem.F.args_set_add_2 _ _)
  unfold Builtin.«set.add» Builtin.Frozenset.oneOther
  simp only [List.isEmpty_nil, bind_assoc]
  unfold Builtin.Frozenset.addrOf setAdd
  refine wpAny_bind (wpAny_pure ?_)
  try dsimp only
  refine wpAny_bind (wpAny_pure ?_)
  try dsimp only
  refine wpAny_bind (wpAny_holding (wpAny_bind (wpAny_pyHash_tuple hu1 hxT ?_)))
  refine add_at (s := { s with toks := s.toks + (k.length + 1) }) R hxT hu1 few fun b h' L' es' ep' t' sb R' c1 c2 => ?_
  show wpAny _ _ (ret Value.none) _ _ _
  refine wpAny_pure ⟨_, rfl, h L' _ c1 c2 (I.write (e := D) (t' := s.toks + (k.length + 1)) (by rw [hD]; trivial) (.inl rfl) (fun b u hb hu => (sb.2 b hb).trans hu) ?_ (setTO_new R'.t0))⟩
  obtain ⟨o', ho', _⟩ := R'.ob
  exact ⟨o', ho'⟩
end
end Pu

/-! own layer: a set of tuples of ints by a comprehension with two sources -/
namespace Pu
open PySem PySem.Spec L2
open Evl (Ex fresh_back sz_of sz_lt ex_l ex_t)
open PyProof.Rows

abbrev scE (e a j a1 j1 : Expr) (c c1 : List Expr) (sc : Scope) (p : Pos) : Expr := .SetComp e [⟨a, j, c, 0⟩, ⟨a1, j1, c1, 0⟩] sc p
abbrev okAll (c : List Expr) (env : Env) : Sem Bool := forIn c true fun x r => if r = true then do let ok ← isTrue x env (eval x env); pure (ForInStep.yield ok) else pure (ForInStep.yield r)
section
variable (e a j a1 j1 : Expr) (c c1 : List Expr) (sc : Scope) (p : Pos) (it acc : Value) (env : Env)
theorem scTurn0 : compTurn (scE e a j a1 j1 c c1 sc p) 0 it acc env = (standAt j.pos >>= fun _ => pyNext it >>= fun r => match r with
    | none => pure (.done .next)
    | some v => letOwnedTupleGo a it v >>= fun _ => assign a env v >>= fun _ => okAll c env >>= fun ok =>
      if ok = true then eval j1 env >>= fun x => standAt j1.pos >>= fun _ => foldedSetIterable j1 env x >>= fun x => holding [x] (pyIter x) >>= fun i =>
        runOwn (.compStart (scE e a j a1 j1 c c1 sc p) 1 i acc env) env >>= fun _ => again (.compLoop (scE e a j a1 j1 c c1 sc p) 0 it acc env)
      else again (.compLoop (scE e a j a1 j1 c c1 sc p) 0 it acc env)) := by rfl
theorem scTurn1 : compTurn (scE e a j a1 j1 c c1 sc p) 1 it acc env = (standAt j1.pos >>= fun _ => pyNext it >>= fun r => match r with
    | none => pure (.done .next)
    | some v => letOwnedTupleGo a1 it v >>= fun _ => assign a1 env v >>= fun _ => okAll c1 env >>= fun ok =>
      if ok = true then (eval e env >>= fun x => standAt e.pos >>= fun _ => call (.builtin "set.add") [acc, x] >>= fun _ => pure ()) >>= fun _ => again (.compLoop (scE e a j a1 j1 c c1 sc p) 1 it acc env)
      else again (.compLoop (scE e a j a1 j1 c c1 sc p) 1 it acc env)) := by rfl
end
/-- what is asked behind an item of the inner source -/
def inTurn (P : Program) (w : World) (K : PySem.W.Frag) (D : Addr) (g1 : TG) (tt1 : TT) (te : TE) (vs1 : List Nat) (σ : L2.St) (Nx1 : Hp → Prop) (x : V) (H : Hp) : Prop :=
  g1 x (wipe σ vs1) H fun σ3 H5 => wipe σ3 vs1 = wipe σ vs1 ∧ tt1 σ3 H5 fun b H6 => if b = true then te σ3 H6 fun y H7 => ∃ (t : Addr) (k : List Int) (L : List (Addr × List Int)), y = .ref t ∧ SqT K H7 t (k.map V.int) ∧ H7 D = some (SetTO P w D L) ∧
    (∀ q ∈ L, SqT K H7 q.1 (q.2.map V.int)) ∧ L.length + 1 < 64 ∧ ∀ L', (k ∈ L.map (·.2) → L' = L) → (k ∉ L.map (·.2) → L'.Perm ((t, k) :: L)) → Nx1 (upd H7 D (SetTO P w D L')) else Nx1 H6
def inLoop (P : Program) (w : World) (K : PySem.W.Frag) (D : Addr) (g1 : TG) (tt1 : TT) (te : TE) (vs1 : List Nat) (σ : L2.St) (Nx : Hp → Prop) (J : It) (H : Hp) : Prop :=
  ∃ W : Nat → Nat → Hp → Prop, (∃ m, W 0 m H) ∧ ∀ i m H, W i m H → (J.stop i H ∧ Nx H) ∨ (J.go i H ∧ ∃ Nx1 : Hp → Prop, (∀ H', Nx1 H' → ∃ k, k < m ∧ W (i + 1) k H') ∧ ∀ x H', J.yld i H x H' → inTurn P w K D g1 tt1 te vs1 σ Nx1 x H')
section
variable {X : Cx} {s0 : Shared} {H0 : Hp} {scope : Scope} {ce : Env} {fp : List Addr} {e a j a1 j1 : Expr} {c c1 : List Expr} {p : Pos} {g1 : TG} {tt1 : TT} {te : TE} {vs1 : List Nat}
/-- the inner source's loop -/
theorem sc2_in {pn : List (Addr × Obj)} {i1 : Addr} {f1 : List Addr} {tn1 : Nat → Heap → Prop} {J1 : It} {H : Hp} {s : Shared} {σ : L2.St} {D : Addr} {Nx : Hp → Prop} {R : Result → Shared → Prop} (hc : X.calm = true) (hu : X.A.units + 64 < cLine)
    (pg : PG (X.blk s0 H0 scope ce fp) a1 g1) (pt : PTs (X.blk s0 H0 scope ce fp) c1 tt1) (pe : PE (X.blk s0 H0 scope ce fp) e te) (T : Turn X.prog X.w X.K a1 J1 f1 i1 tn1) (I : Inv (X.blk s0 H0 scope ce fp) pn σ H s) (st : tn1 0 s.heap)
    (hf : ∀ b ∈ f1, FpOk (X.blk s0 H0 scope ce fp) pn H b) (h : inLoop X.prog X.w X.K D g1 tt1 te vs1 σ Nx J1 H) (fin : ∀ H' s', Inv (X.blk s0 H0 scope ce fp) pn (wipe σ vs1) H' s' → Nx H' → R (.ok .next) s') :
    codeAny (model X.prog X.w) X.A (.compLoop (scE e a j a1 j1 c c1 scope p) 1 (.ref i1) (.ref D) ce) R s := by
  obtain ⟨W, ⟨m1, w1⟩, turn⟩ := h
  have fq : ∀ {H' : Hp}, (∀ b ∈ f1, H' b = none) → ∀ b ∈ f1, FpOk (X.blk s0 H0 scope ce fp) pn H' b := fun n b hb => ⟨n b hb, (hf b hb).2⟩
  refine codeAny_loop rfl (fun n s' => ∃ i H', Inv (X.blk s0 H0 scope ce fp) pn (wipe σ vs1) H' s' ∧ tn1 i s'.heap ∧ (∀ b ∈ f1, H' b = none) ∧ W i n H') (fun n s2 ⟨i, H2, I2, st2, n2, w2⟩ => ?_) m1
    ⟨0, H, I.weak (wipe_length _ _) (fun q v z => (wipe_some z).1), st, fun b hb => (hf b hb).1, w1⟩
  show wpAny _ X.A ((compTurn (scE e a j a1 j1 c c1 scope p) 1 (.ref i1) (.ref D) ce).onRaise (fun x => do noteFrame x ce; theTreesLotGoes x)) _ _ s2
  refine wpAny_noted ?_
  rw [scTurn1]
  refine wpAny_bind (wpAny_standAt (wpAny_bind ?_))
  rcases turn i n H2 w2 with ⟨stop, nx⟩ | ⟨go, Nx1, hN, step⟩
  · refine thnF (T.done (X.blk s0 H0 scope ce fp) rfl rfl rfl hc i pn s2 _ H2 (fun _ _ => False) I2 (fq n2) st2 stop) fun r s3 ⟨hr, I3⟩ => ?_
    subst hr
    exact wpAny_pure (fin H2 s3 I3 nx)
  refine thnF (T.item (X.blk s0 H0 scope ce fp) rfl rfl rfl hc i pn s2 _ H2 (fun _ _ => False) I2 (fq n2) st2 go) fun r s3 ⟨u, hr, h3⟩ => ?_
  subst hr
  refine wpAny_bind (thnF h3 fun _ s4 ⟨x, H4, I4, r4, y4, st4, n4⟩ => ?_)
  have I4' := I4.pinned (fq n4) (T.obj _ _ st4)
  refine wpAny_bind (thnF (pg.run _ s4 _ H4 x u _ I4' r4 (step x H4 y4)) fun _ s5 ⟨σ5, H5, I5, hw5, q5⟩ => ?_)
  refine wpAny_bind (thnF (pt.run _ s5 σ5 H5 _ I5 q5) fun b s6 ⟨H6, I6, q6⟩ => ?_)
  have back : ∀ {s' : Shared} {H' : Hp}, Inv (X.blk s0 H0 scope ce fp) (pn ++ pinsAt f1 s4.heap) σ5 H' s' → Nx1 H' → ∃ k, k < n ∧ ∃ i H', Inv (X.blk s0 H0 scope ce fp) pn (wipe σ vs1) H' s' ∧ tn1 i s'.heap ∧ (∀ b ∈ f1, H' b = none) ∧ W i k H' := fun {s' H'} I' nx => by
    obtain ⟨k, hk, w'⟩ := hN H' nx
    have pin : ∀ b ∈ f1, ∀ o, s4.heap.get? b = some o → s'.heap.get? b = some o ∧ H' b = none := fun b hb o z => by
      have q := I'.pin (b, o) (List.mem_append_right _ (List.mem_append_right _ (mem_pinsAt hb z)))
      exact ⟨q.1, q.2.1⟩
    refine ⟨k, hk, i + 1, H', I'.unpinned.weak (by rw [← hw5, wipe_length]) (fun q v z => by rw [← hw5] at z; exact (wipe_some z).1), T.keep _ _ _ st4 fun b hb o z => (pin b hb o z).1, fun b hb => ?_, w'⟩
    obtain ⟨o, z, _⟩ := T.obj _ _ st4 b hb
    exact (pin b hb o z).2
  cases b with
  | false => exact wpAny_pure ⟨rfl, back I6 q6⟩
  | true =>
    refine wpAny_bind (wpAny_bind (thnF (pe.run _ s6 σ5 H6 _ I6 q6) fun z s7 ⟨y, H7, I7, r7, t, k, L, ey, hT, hD, hL, hz, nx⟩ => ?_))
    subst ey
    cases r7
    refine wpAny_bind (wpAny_standAt (wpAny_bind ?_))
    exact addT_ok (X := X.blk s0 H0 scope ce fp) I7 hu hD hL hT hz fun L' s8 h1 h2 I8 => wpAny_pure (wpAny_pure ⟨rfl, back I8 (nx L' h1 h2)⟩)

/-- the inner source's start -/
theorem sc2_start {R : Result → Shared → Prop} {s : Shared} {A : Around} {P : Program} {w : World} {sc : Scope} {i1 acc : Value} {env : Env} (h0 : codeAny (model P w) A (.compLoop (scE e a j a1 j1 c c1 sc p) 1 i1 acc env) R s)
    (hs : ∀ (Q : Value → Shared → Prop) (E : Value → Shared → Prop), Q i1 s → wpAny (model P w) A (pyIter i1) Q E s) : codeAny (model P w) A (.compStart (scE e a j a1 j1 c c1 sc p) 1 i1 acc env) R s := by
  refine codeAny_of_tree ?_
  show wpAny _ _ ((compStart (scE e a j a1 j1 c c1 sc p) 1 i1 acc env).onRaise (fun x => do noteFrame x env; standAt theWindowsPlace)) _ _ s
  refine wpAny_notedAt ?_
  unfold compStart
  show wpAny _ _ (ask >>= _) _ _ s
  refine wpAny_bind (wpAny_askSetting (wpAny_ite ?_))
  split
  · first
      | exact wpAny_bind (wpAny_pure (wpAny_pure ⟨rfl, h0⟩))
      | exact wpAny_pure ⟨rfl, h0⟩
  · refine wpAny_bind (wpAny_rule ?_)
    show wpAny _ _ (standAt j1.pos >>= _) _ _ s
    exact wpAny_bind (wpAny_standAt (wpAny_bind (hs _ _ (wpAny_pure ⟨rfl, h0⟩))))
def tSc2 (P : Program) (w : World) (K : PySem.W.Frag) (wi : TI) (g : TG) (tt : TT) (wi1 : TI) (g1 : TG) (tt1 : TT) (te : TE) (vs vs1 : List Nat) : TE := fun σ H Q => wi σ H fun J H1 => ∀ D, H1 D = none →
  ∃ W : Nat → Nat → Hp → Prop, (∃ m, W 0 m (upd H1 D (SetTO P w D []))) ∧ ∀ i m H, W i m H → (J.stop i H ∧ Q (.ref D) H) ∨ (J.go i H ∧ ∃ Nx : Hp → Prop, (∀ H', Nx H' → ∃ k, k < m ∧ W (i + 1) k H') ∧ ∀ x H', J.yld i H x H' →
    g x (wipe σ vs) H' fun σ2 H2 => wipe σ2 vs = wipe σ vs ∧ tt σ2 H2 fun b H3 => if b = true then wi1 σ2 H3 (inLoop P w K D g1 tt1 te vs1 σ2 Nx) else Nx H3)
theorem pe_sc2 {own : List (Str × Nat)} {wi wi1 : TI} {g : TG} {tt : TT} (hc : X.calm = true) (hN : X.N.Nodup) (hu : X.A.units + 64 < cLine) (hi : PI X a j wi) (ok : BlkOk X.N X.env.scope scope own) (hv : ∀ i ∈ vs1, i ∈ own.map (·.2))
    (hg : ∀ (s : Shared) (H : Hp) (C : Addr) (cl : List (Str × Addr)) (fp : List Addr), PG (X.blk s H scope (compEnvC scope cl C X.env) fp) a g)
    (ht : ∀ (s : Shared) (H : Hp) (C : Addr) (cl : List (Str × Addr)) (fp : List Addr), PTs (X.blk s H scope (compEnvC scope cl C X.env) fp) c tt)
    (hi1 : ∀ (s : Shared) (H : Hp) (C : Addr) (cl : List (Str × Addr)) (fp : List Addr), PI (X.blk s H scope (compEnvC scope cl C X.env) fp) a1 j1 wi1)
    (hg1 : ∀ (s : Shared) (H : Hp) (C : Addr) (cl : List (Str × Addr)) (fp : List Addr), PG (X.blk s H scope (compEnvC scope cl C X.env) fp) a1 g1)
    (ht1 : ∀ (s : Shared) (H : Hp) (C : Addr) (cl : List (Str × Addr)) (fp : List Addr), PTs (X.blk s H scope (compEnvC scope cl C X.env) fp) c1 tt1)
    (he : ∀ (s : Shared) (H : Hp) (C : Addr) (cl : List (Str × Addr)) (fp : List Addr), PE (X.blk s H scope (compEnvC scope cl C X.env) fp) e te)
    (hs : ∀ x, foldedSetIterable j X.env x = pure x := by intro _; rfl) (hs1 : ∀ env x, foldedSetIterable j1 env x = pure x := by intro _ _; rfl) :
    PE X (scE e a j a1 j1 c c1 scope p) (tSc2 X.prog X.w X.K wi g tt wi1 g1 tt1 te (own.map (·.2)) vs1) := by
  refine ⟨fun pins s σ H Q I h => ?_⟩
  rw [PpSet.eval_SetComp]
  have free : ∀ y ∈ scope.names, y.2 = .free → ∃ q, X.env.cells.lookup y.1 = some q := fun y hy z => (ok.free y hy z).elim (fun k => I.ok.has _ (.inl k)) fun k => I.ok.has _ (.inr k)
  refine wpAny_comprehension_free (use := none) rfl hs (closure_ok free) ok.kind (fun y hy z => by rw [ok.uniq y hy, z]) (thn (hi.run pins s σ H _ I h) fun _ s1 hx => thn hx fun _ s2 ⟨it, fp, tn, J, H2, z, I2, T, st2, f2, q⟩ => ?_)
  subst z
  refine PpSet.newSet_ok (newEnv_comp ?_)
  generalize hD : s2.heap.objs.size = D
  obtain ⟨W, ⟨m0, w0⟩, turn⟩ := q D (I2.hok.fresh (Nat.le_of_eq hD))
  generalize hs3 : ({ s2 with heap := s2.heap.push { cls := .type "set", dict := none, data := .set #[] 0 (.fresh 0 0 (!X.w.params.followText "set-order")) } } : Shared) = s3
  have up : ∀ b o, s2.heap.get? b = some o → s3.heap.get? b = some o := fun b o z => by rw [← hs3]; exact Heap.get?_push_of_some _ z
  have I3 : Inv X pins σ (upd H2 D (SetTO X.prog X.w D [])) s3 := by
    have hset : (s2.heap.push { cls := .type "set", dict := none, data := .set #[] 0 (.fresh 0 0 (!X.w.params.followText "set-order")) }).get? s2.heap.objs.size = some { cls := .type "set", dict := none, data := .set #[] 0 (.fresh 0 0 (!X.w.params.followText "set-order")) } := Heap.get?_push_size _ rfl
    rw [← hs3]
    exact I2.laid (t' := s2.toks) (fun b o z => Heap.get?_push_of_some _ z) (Nat.le_of_eq hD) (setTO_new (setTR_fresh (P := X.prog) (by rw [← hD]; exact hset)).t0)
  have lt : ∀ b ∈ fp, b < s2.heap.objs.size := fun b hb => by
    obtain ⟨o, z, _⟩ := T.obj _ _ st2 b hb
    exact Heap.lt_size z
  generalize hH3 : upd H2 D (SetTO X.prog X.w D []) = H3 at I3 w0
  have f3 : ∀ b ∈ fp, FpOk X pins H3 b ∧ b < s3.heap.objs.size := fun b hb => by
    obtain ⟨o, z, _⟩ := T.obj _ _ st2 b hb
    refine ⟨⟨?_, (f2 b hb).2⟩, Heap.lt_size (up _ _ z)⟩
    rw [← hH3, upd_ne (by rw [← hD]; exact Nat.ne_of_lt (lt b hb))]
    exact (f2 b hb).1
  have I4 := block_start I3 ok hN f3
  have pg := fun C cl => hg s3 H3 C cl fp
  have pt := fun C cl => ht s3 H3 C cl fp
  have pi1 := fun C cl => hi1 s3 H3 C cl fp
  have pg1 := fun C cl => hg1 s3 H3 C cl fp
  have pt1 := fun C cl => ht1 s3 H3 C cl fp
  have pe := fun C cl => he s3 H3 C cl fp
  show codeAny _ _ (.compStart (scE e a j a1 j1 c c1 scope p) 0 (.ref it) (.ref D) (compEnvC scope (cellsFrom (s3.heap.objs.size + 1) scope.names (cloFrom X.env.cells scope.names [])) s3.heap.objs.size X.env)) (compPost (model X.prog X.w) X.A X.xe none _ (.ref D) s3.heap.objs.size) { s3 with heap := pushCells (s3.heap.push { cls := .type "dict", data := .dict #[] }) scope.names }
  have cut : ∀ ce, ce = compEnvC scope (cellsFrom (s3.heap.objs.size + 1) scope.names (cloFrom X.env.cells scope.names [])) s3.heap.objs.size X.env → ce.locals = s3.heap.objs.size ∧ PG (X.blk s3 H3 scope ce fp) a g ∧ PTs (X.blk s3 H3 scope ce fp) c tt ∧ PI (X.blk s3 H3 scope ce fp) a1 j1 wi1 ∧
      PG (X.blk s3 H3 scope ce fp) a1 g1 ∧ PTs (X.blk s3 H3 scope ce fp) c1 tt1 ∧ PE (X.blk s3 H3 scope ce fp) e te := fun ce z => by
    subst z
    exact ⟨rfl, hg s3 H3 _ _ fp, ht s3 H3 _ _ fp, hi1 s3 H3 _ _ fp, hg1 s3 H3 _ _ fp, ht1 s3 H3 _ _ fp, he s3 H3 _ _ fp⟩
  generalize compEnvC scope (cellsFrom (s3.heap.objs.size + 1) scope.names (cloFrom X.env.cells scope.names [])) s3.heap.objs.size X.env = ce at I4 cut ⊢
  obtain ⟨cL, pg, pt, pi1, pg1, pt1, pe⟩ := cut ce rfl
  generalize hs4 : ({ s3 with heap := pushCells (s3.heap.push { cls := .type "dict", data := .dict #[] }) scope.names } : Shared) = s4 at I4 ⊢
  have st4 : tn 0 s4.heap := T.keep _ _ _ st2 fun b _ o z => by
    rw [← hs4]
    exact pushCells_keeps _ _ _ _ (Heap.get?_push_of_some _ (up _ _ z))
  have fq : ∀ {H' : Hp}, (∀ b ∈ fp, H' b = none) → (∀ b ∈ fp, FpOk (X.blk s3 H3 scope ce fp) [] H3 b) → ∀ b ∈ fp, FpOk (X.blk s3 H3 scope ce fp) [] H' b := fun n k b hb => ⟨n b hb, (k b hb).2⟩
  have k0 : ∀ b ∈ fp, FpOk (X.blk s3 H3 scope ce fp) [] H3 b := fun b hb => ⟨(f3 b hb).1.1, (I4.ok.exf b hb).1, I4.ok.exfs b hb, .inl hb, fun x q z => (I4.ok.exf b hb).2 x q z, fun r hr => absurd (show r ∈ ([] : List (Addr × Obj)) ++ [] from hr) (by simp)⟩
  have loop : codeAny (model X.prog X.w) X.A (.compLoop (scE e a j a1 j1 c c1 scope p) 0 (.ref it) (.ref D) ce) (compPost (model X.prog X.w) X.A X.xe none (fun v s' => EP X pins σ Q v s') (.ref D) s3.heap.objs.size) s4 := by
    refine codeAny_loop rfl (fun n s' => ∃ i H', Inv (X.blk s3 H3 scope ce fp) [] (wipe σ (own.map (·.2))) H' s' ∧ tn i s'.heap ∧ (∀ b ∈ fp, H' b = none) ∧ W i n H') (fun n s5 ⟨i, H5, I5, st5, n5, w5⟩ => ?_) m0 ⟨0, H3, I4, st4, fun b hb => (f3 b hb).1.1, w0⟩
    show wpAny _ X.A ((compTurn (scE e a j a1 j1 c c1 scope p) 0 (.ref it) (.ref D) ce).onRaise (fun x => do noteFrame x ce; theTreesLotGoes x)) _ _ s5
    refine wpAny_noted ?_
    rw [scTurn0]
    refine wpAny_bind (wpAny_standAt (wpAny_bind ?_))
    rcases turn i n H5 w5 with ⟨stop, qq⟩ | ⟨go, Nx, hNx, step⟩
    · refine thnF (T.done (X.blk s3 H3 scope ce fp) rfl rfl rfl hc i [] s5 _ H5 (fun _ _ => False) I5 (fq n5 k0) st5 stop) fun r s6 ⟨hr, I6⟩ => ?_
      subst hr
      have I7 : Inv X pins σ H5 s6 := I3.call' (ch := fp) I6.os I6.base I6.hok I6.bare fun b hb => ⟨(f3 b hb).1.2.2.2.1, (f3 b hb).1.2.1, (f3 b hb).1.2.2.2.2.1, (f3 b hb).1.2.2.2.2.2⟩
      have nC : H5 s3.heap.objs.size = none := by
        rw [← cL]
        exact I6.free
      obtain ⟨m, hn, _⟩ := I6.loc
      have hn : s6.heap.Ns ce.locals m := hn
      rw [cL] at hn
      obtain ⟨f0, f1, f2', f3', f4, f5⟩ := I3.fpOk (Nat.le_refl s3.heap.objs.size) nC
      exact wpAny_pure ⟨m, hn, fun h' sb => ⟨.ref D, H5, I7.turned (t' := s6.toks) (fun b o hb z => (sb.2 b hb).trans z) f0 f1 f3' f4 f5, rfl, qq⟩⟩
    refine thnF (T.item (X.blk s3 H3 scope ce fp) rfl rfl rfl hc i [] s5 _ H5 (fun _ _ => False) I5 (fq n5 k0) st5 go) fun r s6 ⟨u, hr, h6⟩ => ?_
    subst hr
    refine wpAny_bind (thnF h6 fun _ s7 ⟨x, H7, I7, r7, y7, st7, n7⟩ => ?_)
    have I7' := I7.pinned (fq n7 k0) (T.obj _ _ st7)
    refine wpAny_bind (thnF (pg.run _ s7 _ H7 x u _ I7' r7 (step x H7 y7)) fun _ s8 ⟨σ8, H8, I8, hw8, q8⟩ => ?_)
    refine wpAny_bind (thnF (pt.run _ s8 σ8 H8 _ I8 q8) fun b s9 ⟨H9, I9, q9⟩ => ?_)
    have back : ∀ {σ9 : L2.St} {s' : Shared} {H' : Hp}, Inv (X.blk s3 H3 scope ce fp) ([] ++ pinsAt fp s7.heap) σ9 H' s' → (wipe σ (own.map (·.2))).length = σ9.length → (∀ (q : Nat) v, (wipe σ (own.map (·.2)))[q]? = some (some v) → σ9[q]? = some (some v)) → Nx H' →
        ∃ m, m < n ∧ ∃ i H', Inv (X.blk s3 H3 scope ce fp) [] (wipe σ (own.map (·.2))) H' s' ∧ tn i s'.heap ∧ (∀ b ∈ fp, H' b = none) ∧ W i m H' := fun {σ9 s' H'} I' hl hk nx => by
      obtain ⟨m, hm, w'⟩ := hNx H' nx
      have pin : ∀ b ∈ fp, ∀ o, s7.heap.get? b = some o → s'.heap.get? b = some o ∧ H' b = none := fun b hb o z => by
        have q := I'.pin (b, o) (List.mem_append_right _ (List.mem_append_right _ (mem_pinsAt hb z)))
        exact ⟨q.1, q.2.1⟩
      refine ⟨m, hm, i + 1, H', (I'.unpinned (pins := [])).weak hl hk, T.keep _ _ _ st7 fun b hb o z => (pin b hb o z).1, fun b hb => ?_, w'⟩
      obtain ⟨o, z, _⟩ := T.obj _ _ st7 b hb
      exact (pin b hb o z).2
    have l8 : (wipe σ (own.map (·.2))).length = σ8.length := by rw [← hw8, wipe_length]
    have k8 : ∀ (q : Nat) v, (wipe σ (own.map (·.2)))[q]? = some (some v) → σ8[q]? = some (some v) ∧ q ∉ own.map (·.2) := fun q v z => by
      rw [← hw8] at z
      exact wipe_some z
    cases b with
    | false => exact wpAny_pure ⟨rfl, back I9 l8 (fun q v z => (k8 q v z).1) q9⟩
    | true =>
      refine wpAny_bind (thnF (pi1.run _ s9 σ8 H9 _ I9 q9) fun xv s10 hx => ?_)
      refine wpAny_bind (wpAny_standAt (wpAny_bind (wpAny_of_eq (hs1 ce xv) (wpAny_bind (wpAny_holding (thnF hx fun iv s11 ⟨it1, fp1, tn1, J1, H11, z1, I11, T1, st11, f11, q11⟩ => ?_))))))
      subst z1
      refine wpAny_bind (wpAny_runOwn ?_)
      rw [Around.mark_none]
      refine codeAny_mono (sc2_start (e := e) (a := a) (j := j) (a1 := a1) (j1 := j1) (c := c) (c1 := c1) (p := p) (R := fun r s' => r = .ok .next ∧ ∃ m, m < n ∧ ∃ i H', Inv (X.blk s3 H3 scope ce fp) [] (wipe σ (own.map (·.2))) H' s' ∧ tn i s'.heap ∧ (∀ b ∈ fp, H' b = none) ∧ W i m H')
        (sc2_in hc hu pg1 pt1 pe T1 I11 st11 f11 q11 fun H' s' I' nx => ⟨rfl, back I' (l8.trans (wipe_length σ8 vs1).symm) (fun q v z => ?_) nx⟩) fun Q E hq => T1.self X.A 0 _ _ _ st11 hq) fun r s' ⟨hr, hq⟩ => ?_
      · obtain ⟨z1, z2⟩ := k8 q v z
        rw [wipe_out fun k => z2 (hv q k)]
        exact z1
      · subst hr
        first
          | exact wpAny_pure ⟨rfl, hq⟩
          | exact wpAny_bind (wpAny_pure (wpAny_pure ⟨rfl, hq⟩))
  exact PpSet.codeAny_compStart_set loop (T.self X.A 0 _ _ _ st4 loop)
end
end Pu

/-! rules of the machine that the layer wants: a dict from places by a comprehension -/
namespace Pm
open PySem PySem.Spec L2
open PyProof.Rows
section
variable {X : Cx} {pins : List (Addr × Obj)} {σ : L2.St} {H : Hp} {s : Shared} {E : Value → Shared → Prop}
/-- one entry of a comprehension's dict, its key a tuple -/
theorem put_dT {D b : Addr} {kvs : List (List Key × V)} {k : List Key} {v : V} {u r : Value} {Q : Unit → Shared → Prop} (hu : X.A.units + 1 < cLine) (I : Inv X pins σ H s) (hD : H D = some (.dT kvs)) (hb : H b = some (.tup (k.map kV)))
    (hz : kvs.length < sizeLine) (ry : RelV (.ref b) u) (rv : RelV v r) (h : ∀ s', Inv X pins σ (upd H D (.dT (putK kvs k v))) s' → Q () s') : wpAny (model X.prog X.w) X.A (dictSet D u r) Q E s := by
  cases (show u = Value.ref b from ry)
  obtain ⟨_, sys, xs, rel, dd⟩ := dt_of I.hok hD
  have few : xs.length ≤ sizeLine := by
    rw [← Paired.length rel]
    exact Nat.le_of_lt hz
  have more : (putK kvs k v).length ≤ sizeLine := by
    have := length_putK kvs k v
    omega
  refine wpAny_dictSet_heap (hsz := few) (show (tupleKind _).room X.A from Nat.lt_of_succ_lt hu) (key_of I.hok hb) dd fun h' d' same => h _ ?_
  obtain ⟨q, es, ep, e1, e2, e3, e4, _, e5⟩ := d'
  refine d_write I (by rw [hD]; exact True.intro) same ⟨q, e1⟩ ⟨more, sys, _, (rel.put k hb rv).keeps fun c ys ec => ?_, q, es, ep, e1, e2, e3, e4, e5⟩
  rw [upd_ne (ne_of ec hD fun z => nomatch z)]
  exact ec
/-- what is asked behind an item -/
def dTurn (D : Addr) (g : TG) (tt : TT) (tk tv : TE) (vs : List Nat) (σ : L2.St) (Nx : Hp → Prop) (x : V) (H : Hp) : Prop :=
  g x (wipe σ vs) H fun σ2 H2 => wipe σ2 vs = wipe σ vs ∧ tt σ2 H2 fun b H3 => if b = true then tk σ2 H3 fun y H4 => tv σ2 H4 fun z H5 => ∃ (p : Addr) (k : List Key) (kvs : List (List Key × V)), y = .ref p ∧ H5 p = some (.tup (k.map kV)) ∧ H5 D = some (.dT kvs) ∧ kvs.length < sizeLine ∧ Nx (upd H5 D (.dT (putK kvs k z))) else Nx H3
def tDcT (wi : TI) (g : TG) (tt : TT) (tk tv : TE) (vs : List Nat) : TE := fun σ H Q => wi σ H fun J H1 => ∀ D, H1 D = none →
  ∃ W : Nat → Nat → Hp → Prop, (∃ m, W 0 m (upd H1 D (.dT []))) ∧ ∀ i m H, W i m H → (J.stop i H ∧ Q (.ref D) H) ∨ (J.go i H ∧ ∃ Nx : Hp → Prop, (∀ H', Nx H' → ∃ k, k < m ∧ W (i + 1) k H') ∧ ∀ x H', J.yld i H x H' → dTurn D g tt tk tv vs σ Nx x H')
abbrev dcE (kx vx a j : Expr) (c : List Expr) (sc : Scope) (p : Pos) : Expr := .DictComp kx vx [⟨a, j, c, 0⟩] sc p
variable {kx vx a j : Expr} {c : List Expr} {scope : Scope} {p p' : Pos} {own : List (Str × Nat)} {wi : TI} {g : TG} {tt : TT} {tk tv : TE}
theorem dcT_core {Q : VK} {use : Option (Value → Sem Unit)} {Qf : Value → Shared → Prop} (hc : X.calm = true) (hN : X.N.Nodup) (hu : X.A.units + 1 < cLine) (I : Inv X pins σ H s) (hi : PI X a j wi) (ok : BlkOk X.N X.env.scope scope own)
    (hg : ∀ (s : Shared) (H : Hp) (C : Addr) (cl : List (Str × Addr)) (fp : List Addr), PG (X.blk s H scope (compEnvC scope cl C X.env) fp) a g)
    (ht : ∀ (s : Shared) (H : Hp) (C : Addr) (cl : List (Str × Addr)) (fp : List Addr), PTs (X.blk s H scope (compEnvC scope cl C X.env) fp) c tt)
    (hk : ∀ (s : Shared) (H : Hp) (C : Addr) (cl : List (Str × Addr)) (fp : List Addr), PE (X.blk s H scope (compEnvC scope cl C X.env) fp) kx tk)
    (hv : ∀ (s : Shared) (H : Hp) (C : Addr) (cl : List (Str × Addr)) (fp : List Addr), PE (X.blk s H scope (compEnvC scope cl C X.env) fp) vx tv)
    (hs : ∀ x, foldedSetIterable j X.env x = pure x) (h : tDcT wi g tt tk tv (own.map (·.2)) σ H Q)
    (fin : ∀ D C s' m H', Inv X pins σ H' s' → Q (.ref D) H' → s'.heap.Ns C m → FpOk X pins H' C → compPost (model X.prog X.w) X.A X.xe use Qf (.ref D) C (.ok .next) s') :
    wpAny (model X.prog X.w) X.A (comprehension (dcE kx vx a j c scope p) scope X.env p' newDict false (eval j X.env) use) Qf X.xe s := by
  have free : ∀ y ∈ scope.names, y.2 = .free → ∃ q, X.env.cells.lookup y.1 = some q := fun y hy z => (ok.free y hy z).elim (fun k => I.ok.has _ (.inl k)) fun k => I.ok.has _ (.inr k)
  refine wpAny_comprehension_free (use := use) rfl hs (closure_ok free) ok.kind (fun y hy z => by rw [ok.uniq y hy, z]) (thn (hi.run pins s σ H _ I h) fun _ s1 hx => thn hx fun _ s2 ⟨it, fp, tn, J, H2, z, I2, T, st2, f2, q⟩ => ?_)
  subst z
  refine wpAny_newObj_type (newEnv_comp ?_)
  generalize hD : s2.heap.objs.size = D
  obtain ⟨W, ⟨m0, w0⟩, turn⟩ := q D (I2.hok.fresh (Nat.le_of_eq hD))
  generalize hs3 : ({ s2 with heap := s2.heap.push { cls := .type "dict", data := .dict #[] } } : Shared) = s3
  have up : ∀ b o, s2.heap.get? b = some o → s3.heap.get? b = some o := fun b o z => by rw [← hs3]; exact Heap.get?_push_of_some _ z
  have I3 : Inv X pins σ (upd H2 D (.dT [])) s3 := by
    rw [← hs3]
    refine I2.laid (t' := s2.toks) (fun b o z => Heap.get?_push_of_some _ z) (Nat.le_of_eq hD) ?_
    rw [← hD]
    exact dt_empty s2.heap I2.big
  have lt : ∀ b ∈ fp, b < s2.heap.objs.size := fun b hb => by
    obtain ⟨o, z, _⟩ := T.obj _ _ st2 b hb
    exact Heap.lt_size z
  generalize hH3 : upd H2 D (.dT []) = H3 at I3 w0
  have f3 : ∀ b ∈ fp, FpOk X pins H3 b ∧ b < s3.heap.objs.size := fun b hb => by
    obtain ⟨o, z, _⟩ := T.obj _ _ st2 b hb
    refine ⟨⟨?_, (f2 b hb).2⟩, Heap.lt_size (up _ _ z)⟩
    rw [← hH3, upd_ne (by rw [← hD]; exact Nat.ne_of_lt (lt b hb))]
    exact (f2 b hb).1
  have I4 := block_start I3 ok hN f3
  show codeAny _ _ (.compStart (dcE kx vx a j c scope p) 0 (.ref it) (.ref D) (compEnvC scope (cellsFrom (s3.heap.objs.size + 1) scope.names (cloFrom X.env.cells scope.names [])) s3.heap.objs.size X.env)) (compPost (model X.prog X.w) X.A X.xe use Qf (.ref D) s3.heap.objs.size) { s3 with heap := pushCells (s3.heap.push { cls := .type "dict", data := .dict #[] }) scope.names }
  have cut : ∀ ce, ce = compEnvC scope (cellsFrom (s3.heap.objs.size + 1) scope.names (cloFrom X.env.cells scope.names [])) s3.heap.objs.size X.env → ce.locals = s3.heap.objs.size ∧ PG (X.blk s3 H3 scope ce fp) a g ∧ PTs (X.blk s3 H3 scope ce fp) c tt ∧ PE (X.blk s3 H3 scope ce fp) kx tk ∧ PE (X.blk s3 H3 scope ce fp) vx tv := fun ce z => by
    subst z
    exact ⟨rfl, hg s3 H3 _ _ fp, ht s3 H3 _ _ fp, hk s3 H3 _ _ fp, hv s3 H3 _ _ fp⟩
  generalize compEnvC scope (cellsFrom (s3.heap.objs.size + 1) scope.names (cloFrom X.env.cells scope.names [])) s3.heap.objs.size X.env = ce at I4 cut ⊢
  obtain ⟨cL, pg, pt, pk, pv⟩ := cut ce rfl
  generalize hs4 : ({ s3 with heap := pushCells (s3.heap.push { cls := .type "dict", data := .dict #[] }) scope.names } : Shared) = s4 at I4 ⊢
  have st4 : tn 0 s4.heap := T.keep _ _ _ st2 fun b _ o z => by
    rw [← hs4]
    exact pushCells_keeps _ _ _ _ (Heap.get?_push_of_some _ (up _ _ z))
  have fq : ∀ {H' : Hp}, (∀ b ∈ fp, H' b = none) → (∀ b ∈ fp, FpOk (X.blk s3 H3 scope ce fp) [] H3 b) → ∀ b ∈ fp, FpOk (X.blk s3 H3 scope ce fp) [] H' b := fun n k b hb => ⟨n b hb, (k b hb).2⟩
  have k0 : ∀ b ∈ fp, FpOk (X.blk s3 H3 scope ce fp) [] H3 b := fun b hb => ⟨(f3 b hb).1.1, (I4.ok.exf b hb).1, I4.ok.exfs b hb, .inl hb, fun x q z => (I4.ok.exf b hb).2 x q z, fun r hr => absurd (show r ∈ ([] : List (Addr × Obj)) ++ [] from hr) (by simp)⟩
  have loop : codeAny (model X.prog X.w) X.A (.compLoop (dcE kx vx a j c scope p) 0 (.ref it) (.ref D) ce) (compPost (model X.prog X.w) X.A X.xe use Qf (.ref D) s3.heap.objs.size) s4 := by
    refine compLoop_anyD (fun n s' => ∃ i H', Inv (X.blk s3 H3 scope ce fp) [] (wipe σ (own.map (·.2))) H' s' ∧ tn i s'.heap ∧ (∀ b ∈ fp, H' b = none) ∧ W i n H') (fun n s5 ⟨i, H5, I5, st5, n5, w5⟩ => ?_) m0 ⟨0, H3, I4, st4, fun b hb => (f3 b hb).1.1, w0⟩
    rcases turn i n H5 w5 with ⟨stop, qq⟩ | ⟨go, Nx, hNx, step⟩
    · refine thnF (T.done (X.blk s3 H3 scope ce fp) rfl rfl rfl hc i [] s5 _ H5 (fun _ _ => False) I5 (fq n5 k0) st5 stop) fun r s6 ⟨hr, I6⟩ => ?_
      subst hr
      have I7 : Inv X pins σ H5 s6 := I3.call' (ch := fp) I6.os I6.base I6.hok I6.bare fun b hb => ⟨(f3 b hb).1.2.2.2.1, (f3 b hb).1.2.1, (f3 b hb).1.2.2.2.2.1, (f3 b hb).1.2.2.2.2.2⟩
      have nC : H5 s3.heap.objs.size = none := by
        rw [← cL]
        exact I6.free
      obtain ⟨m, hn, _⟩ := I6.loc
      have hn : s6.heap.Ns ce.locals m := hn
      rw [cL] at hn
      exact fin D s3.heap.objs.size s6 m H5 I7 qq hn (I3.fpOk (Nat.le_refl _) nC)
    refine thnF (T.item (X.blk s3 H3 scope ce fp) rfl rfl rfl hc i [] s5 _ H5 (fun _ _ => False) I5 (fq n5 k0) st5 go) fun r s6 ⟨u, hr, h6⟩ => ?_
    subst hr
    refine thnF h6 fun _ s7 ⟨x, H7, I7, r7, y7, st7, n7⟩ => ?_
    have I7' := I7.pinned (fq n7 k0) (T.obj _ _ st7)
    refine thnF (pg.run _ s7 _ H7 x u _ I7' r7 (step x H7 y7)) fun _ s8 ⟨σ8, H8, I8, hw8, q8⟩ => ?_
    refine thnF (pt.run _ s8 σ8 H8 _ I8 q8) fun b s9 ⟨H9, I9, q9⟩ => ?_
    have back : ∀ {s' : Shared} {H' : Hp}, Inv (X.blk s3 H3 scope ce fp) ([] ++ pinsAt fp s7.heap) σ8 H' s' → Nx H' → ∃ m, m < n ∧ ∃ i H', Inv (X.blk s3 H3 scope ce fp) [] (wipe σ (own.map (·.2))) H' s' ∧ tn i s'.heap ∧ (∀ b ∈ fp, H' b = none) ∧ W i m H' := fun {s' H'} I' nx => by
      obtain ⟨m, hm, w'⟩ := hNx H' nx
      have pin : ∀ b ∈ fp, ∀ o, s7.heap.get? b = some o → s'.heap.get? b = some o ∧ H' b = none := fun b hb o z => by
        have q := I'.pin (b, o) (List.mem_append_right _ (List.mem_append_right _ (mem_pinsAt hb z)))
        exact ⟨q.1, q.2.1⟩
      refine ⟨m, hm, i + 1, H', (I'.unpinned (pins := [])).weak (by rw [← hw8, wipe_length]) (fun q v z => by rw [← hw8] at z; exact (wipe_some z).1), T.keep _ _ _ st7 fun b hb o z => (pin b hb o z).1, fun b hb => ?_, w'⟩
      obtain ⟨o, z, _⟩ := T.obj _ _ st7 b hb
      exact (pin b hb o z).2
    cases b with
    | false => exact back I9 q9
    | true =>
      refine thnF (pk.run _ s9 σ8 H9 _ I9 q9) fun z s10 ⟨y, H10, I10, r10, q10⟩ => ?_
      refine thnF (pv.run _ s10 σ8 H10 _ I10 q10) fun z2 s11 ⟨y2, H11, I11, r11, b2, k, kvs, ey, hb2, hD2, hz2, nx⟩ => ?_
      subst ey
      exact put_dT (X := X.blk s3 H3 scope ce fp) hu I11 hD2 hb2 hz2 r10 r11 fun s12 I12 => back I12 nx
  exact codeAny_compStart_dict loop (T.self X.A 0 _ _ _ st4 loop)
section
variable (hc : X.calm = true) (hN : X.N.Nodup) (hu : X.A.units + 1 < cLine) (hi : PI X a j wi) (ok : BlkOk X.N X.env.scope scope own)
  (hg : ∀ (s : Shared) (H : Hp) (C : Addr) (cl : List (Str × Addr)) (fp : List Addr), PG (X.blk s H scope (compEnvC scope cl C X.env) fp) a g)
  (ht : ∀ (s : Shared) (H : Hp) (C : Addr) (cl : List (Str × Addr)) (fp : List Addr), PTs (X.blk s H scope (compEnvC scope cl C X.env) fp) c tt)
  (hk : ∀ (s : Shared) (H : Hp) (C : Addr) (cl : List (Str × Addr)) (fp : List Addr), PE (X.blk s H scope (compEnvC scope cl C X.env) fp) kx tk)
  (hv : ∀ (s : Shared) (H : Hp) (C : Addr) (cl : List (Str × Addr)) (fp : List Addr), PE (X.blk s H scope (compEnvC scope cl C X.env) fp) vx tv)
include hc hN hu hi ok hg ht hk hv
/-- as a value -/
theorem pe_dcT (hs : ∀ x, foldedSetIterable j X.env x = pure x := by intro _; rfl) : PE X (dcE kx vx a j c scope p) (tDcT wi g tt tk tv (own.map (·.2))) := by
  refine ⟨fun pins s σ H Q I h => ?_⟩
  rw [arm_eval_DictComp]
  refine dcT_core hc hN hu I hi ok hg ht hk hv hs h fun D C s' m H' I' q hn f => ⟨m, hn, fun h'' sb => ?_⟩
  obtain ⟨f0, f1, _, f3, f4, f5⟩ := f
  exact ⟨.ref D, H', I'.turned (t' := s'.toks) (fun b o hb z => (sb.2 b hb).trans z) f0 f1 f3 f4 f5, rfl, q⟩
/-- y = {..} -/
theorem ps_setDcT {i : Nat} {y : Str} {py spos : Pos} (hy : X.N[i]? = some y) (hyl : X.env.scope.names.lookup y = some .local) (hsw : swapsWith (dcE kx vx a j c scope p) (some (.Name y py)) spos.line X.env = pure true)
    (hs : ∀ x, foldedSetIterable j X.env x = pure x := by intro _; rfl) : PS X (.Assign [.Name y py] (dcE kx vx a j c scope p) spos) (tAsg (tDcT wi g tt tk tv (own.map (·.2))) (gName i)) := by
  refine ⟨fun pins s σ H D I h => ?_⟩
  rw [exec_Assign_Name_used _ _ _ _ hsw]
  refine wpAny_bind (wpAny_standAt (wpAny_bind ?_))
  show wpAny _ X.A (do let _ ← comprehension (dcE kx vx a j c scope p) scope X.env (firstIterPos [⟨a, j, c, 0⟩] p) newDict false (eval j X.env) (some (assign (.Name y py) X.env))) _ _ s
  have h : tDcT wi g tt tk tv (own.map (·.2)) σ H (fun x H1 => gName i x σ H1 D.nx) := h
  refine wpAny_bind (thn (dcT_core (Qf := fun _ s' => SP X pins D .next s') hc hN hu I hi ok hg ht hk hv hs h fun L C s' m H' I' q hn f => ?_) fun _ s' hq => wpAny_pure (wpAny_pure hq))
  show wpAny _ _ (assign (.Name y py) X.env (.ref L)) _ _ _
  refine wpAny_assign_Name (store_ok2 (v := V.ref L) I' hN hy (.inl hyl) rfl (fun s2 I2 ⟨b, sb, hb⟩ => ?_) (.inr hyl))
  obtain ⟨f0, f1, _, f3, f4, f5⟩ := f
  have ne : C ≠ b := hb.elim (fun z => by rw [z]; exact f1) fun z e => f4 y b z e.symm
  exact ⟨m, hn.sameBut sb ne, fun h3 sb3 => ⟨_, H', I2.turned (t' := s2.toks) (fun b o hb z => (sb3.2 b hb).trans z) f0 f1 f3 f4 f5, q⟩⟩
end
theorem sw_trueD {y : Str} {l : Nat} {py : Pos} {env : Env} (hk : env.scope.kind = .function) (hy : env.scope.names.lookup y = some .local) (hl : (py.line == p.line) = true)
    (ha : (scope.names.any fun (n, k) => n == y && (k == .local || k == .cell)) = false) : swapsWith (dcE kx vx a j c scope p) (some (.Name y py)) l env = pure true := by
  have e1 : env.kindOf y = some .local := hy
  have e2 : env.blockKind = .function := by unfold Env.blockKind; rw [hk]; rfl
  unfold swapsWith
  simp only [e2, e1, ha, Expr.pos, hl]
  rfl
end
end Pm

/-! own layer: such a set as data; its places in order -/
namespace Pu
open PySem PySem.Spec L2
open Evl (fresh_back sz_of sz_lt ex_l ex_t)
theorem len_sub {α : Type} [DecidableEq α] : ∀ {l B : List α}, l.Nodup → (∀ x ∈ l, x ∈ B) → l.length ≤ B.length
  | [], B, _, _ => Nat.zero_le _
  | x :: l, B, hn, hs => by
    obtain ⟨h1, h2⟩ := List.nodup_cons.mp hn
    have hx : x ∈ B := hs x List.mem_cons_self
    have q := len_sub (B := B.erase x) h2 fun y hy => (List.mem_erase_of_ne fun z => h1 (by rw [← z]; exact hy)).mpr (hs y (List.mem_cons_of_mem _ hy))
    rw [List.length_erase_of_mem hx] at q
    have := List.length_pos_of_mem hx
    rw [List.length_cons]
    omega
theorem take_ex {α : Type} {p : α → Prop} {ds : List α} {i : Nat} {d : α} (h : ds[i]? = some d) : (∃ x ∈ ds.take (i + 1), p x) ↔ (∃ x ∈ ds.take i, p x) ∨ p d := by
  rw [List.take_add_one, h]
  constructor
  · rintro ⟨x, hx, hp⟩
    rcases List.mem_append.mp hx with z | z
    · exact .inl ⟨x, z, hp⟩
    · have e : x = d := by simpa using z
      exact .inr (e ▸ hp)
  · rintro (⟨x, hx, hp⟩ | hp)
    · exact ⟨x, List.mem_append_left _ hx, hp⟩
    · exact ⟨d, List.mem_append_right _ (by simp), hp⟩
section
variable {K : PySem.W.Frag} {P : Program} {w : World} {es : Es} {ta tb te tl : TE} {d e : PyData} {ds : List PyData}
theorem SE.withinO {G H H' : Hp} {σ : L2.St} {p : Addr} {o : HO} (S : SE K G H σ es) (hn : H p = none) (e : Evl.Ex H H') (hp : H' p = some o) (nt : NT o) : SE K (hide p (Pu.grow G H H')) H' σ es := by
  have gp : G p = none := fresh_back S.ex hn
  refine S.re (ex_hide (ex_grow S.ex e) gp) (hide_ex.trans grow_ex) e (fun q ys h1 h2 => ?_) (fun a u h1 h2 => ?_)
  · by_cases z : q = p
    · rw [z, hide_self]
    · rw [hide_ne z, grow_priv h1 h2]
  · by_cases z : a = p
    · rw [z, hp] at h2
      cases h2
      exact nt
    · rw [hide_ne z] at h1
      exact prv_grow S.prv e a u h1 h2
theorem within_exO {G H H' H4 : Hp} {p : Addr} {o : HO} (e : Evl.Ex H H') (hp : H' p = some o) : Evl.Ex (grow (hide p (grow G H H')) H' H4) (hide p (grow G H H4)) := fun a u h => by
  by_cases z : a = p
  · rw [z, grow_priv hide_self hp] at h
    cases h
  · rw [hide_ne z]
    have h4 := grow_ex _ _ h
    cases hg : G a with
    | some u => rw [grow_pub hg]; exact h4
    | none =>
      cases hh : H a with
      | none => rw [grow_new hh]; exact h4
      | some u =>
        have q : hide p (grow G H H') a = none := by rw [hide_ne z, grow_priv hg hh]
        rw [grow_priv q (e _ _ hh)] at h
        cases h
def tupD (k : List Int) : PyData := .tuple (k.map .int)
theorem dp_tupD {H : Hp} {v : V} {k : List Int} (h : Dp K H v (tupD k)) : ∃ t, v = .ref t ∧ SqT K H t (k.map V.int) := by
  obtain ⟨p, xs, rfl, hs, hd⟩ := dp_tup h
  rw [dpa_ints hd] at hs
  exact ⟨p, rfl, hs⟩
/-- a new set of tuples of ints: its members -/
structure EvT (K : PySem.W.Frag) (P : Program) (w : World) (te : TE) (es : Es) (ks : List Int → Prop) : Prop where
  run : ∀ {G H : Hp} {σ : L2.St}, SE K G H σ es → ∀ {H1 : Hp}, Evl.Ex H H1 → ∀ {Q : VK}, (∀ D L H2, H1 D = none → Evl.Ex H1 H2 → H2 D = some (SetTO P w D L) → (∀ q ∈ L, SqT K (hide D (grow G H H2)) q.1 (q.2.map V.int)) → (∀ k, k ∈ L.map (·.2) ↔ ks k) → Q (.ref D) H2) → te σ H1 Q
/-- what is kept while the set grows -/
structure Grw (K : PySem.W.Frag) (P : Program) (w : World) (G H : Hp) (D : Addr) (H' : Hp) (ks : List Int → Prop) : Prop where
  at' : ∃ L, H' D = some (SetTO P w D L) ∧ (∀ q ∈ L, SqT K (hide D (grow G H H')) q.1 (q.2.map V.int)) ∧ (∀ k, k ∈ L.map (·.2) ↔ ks k) ∧ (L.map (·.2)).Nodup
theorem Grw.up {G H H' H2 : Hp} {D : Addr} {ks : List Int → Prop} (h : Grw K P w G H D H' ks) (e : Evl.Ex H' H2) : Grw K P w G H D H2 ks := by
  obtain ⟨L, a, b, c, d⟩ := h.at'
  exact ⟨L, e _ _ a, fun q hq => ex_t (hide_mono (grow_mono e)) (b q hq), c, d⟩
theorem Grw.as {G H H' : Hp} {D : Addr} {ks ks' : List Int → Prop} (h : Grw K P w G H D H' ks) (e : ∀ k, ks k ↔ ks' k) : Grw K P w G H D H' ks' := by
  obtain ⟨L, a, b, c, d⟩ := h.at'
  exact ⟨L, a, b, fun k => (c k).trans (e k), d⟩
theorem et_sc2 {α β : Type} {wi wi1 : TI} {j j1 : Nat} {vs vs1 : List Nat} {as : List α} {enc : α → PyData} {enc1 : β → PyData} (bs : α → List β) (f : α → β → List Int) (B : List (List Int)) (hB : B.length < 63) (h : EvI K wi es (as.map enc))
    (hj : ∀ σ x, wipe ((wipe σ vs).set j x) vs = wipe σ vs) (hj1 : ∀ σ x, wipe ((wipe σ vs1).set j1 x) vs1 = wipe σ vs1)
    (h1 : ∀ d ∈ as, EvI K wi1 ((wipeE es vs).set j (.dat (enc d))) ((bs d).map enc1)) (hb : ∀ d ∈ as, ∀ x ∈ bs d, f d x ∈ B)
    (he : ∀ d ∈ as, ∀ x ∈ bs d, EvE K te ((wipeE ((wipeE es vs).set j (.dat (enc d))) vs1).set j1 (.dat (enc1 x))) (tupD (f d x))) : EvT K P w (tSc2 P w K wi (gName j) tYes wi1 (gName j1) tYes te vs vs1) es (fun k => ∃ d ∈ as, ∃ x ∈ bs d, f d x = k) := .mk fun {G H σ} S {H1} e1 {Q} q =>
  h.1 S e1 fun J H2 e2 hJ D hD => by
    have e12 := e1.trans e2
    have hn : H D = none := fresh_back e12 hD
    have la : (as.map enc).length = as.length := List.length_map _
    refine ⟨fun i m H' => m = as.length - i ∧ i ≤ as.length ∧ Evl.Ex H2 H' ∧ Grw K P w G H D H' (fun k => ∃ d ∈ as.take i, ∃ x ∈ bs d, f d x = k), ⟨as.length, by simp, Nat.zero_le _, Evl.Ex.new hD, [], upd_same, fun q hq => (nomatch hq), fun k => by simp, List.nodup_nil⟩, ?_⟩
    rintro i m H' ⟨rfl, hi, eH, hgr⟩
    have e' : Evl.Ex H H' := e12.trans eH
    by_cases hlt : i < as.length
    · refine .inr ⟨hJ.go i H' (grow_ex.trans eH) (by rw [la]; exact hlt), fun H' => i + 1 ≤ as.length ∧ Evl.Ex H2 H' ∧ Grw K P w G H D H' (fun k => ∃ d ∈ as.take (i + 1), ∃ x ∈ bs d, f d x = k), fun H3 w => ⟨as.length - (i + 1), by omega, rfl, w⟩, fun x H3 y => ?_⟩
      obtain ⟨rfl, dd, hdi, hx⟩ := hJ.yld i x H' H3 (grow_ex.trans eH) (by rw [la]; exact hlt) y
      rw [List.getElem?_map] at hdi
      obtain ⟨d, hd0, rfl⟩ := Option.map_eq_some_iff.mp hdi
      replace hdi := hd0
      have hm : d ∈ as := List.mem_of_getElem? hdi
      obtain ⟨L, a3, _⟩ := hgr.at'
      have S2 := ((S.withinO hn e' a3 trivial).wipe vs).putDat j (hx.up (ex_hide (grow_mono eH) (grow_none hD)))
      refine ⟨hj σ (some x), ?_⟩
      rw [tYes_at, if_pos rfl]
      refine (h1 d hm).1 S2 (Evl.Ex.refl _) fun J1 H4 e4 hJ1 => ?_
      have lb : ((bs d).map enc1).length = (bs d).length := List.length_map _
      refine ⟨fun k n H5 => n = (bs d).length - k ∧ k ≤ (bs d).length ∧ Evl.Ex H2 H5 ∧ Evl.Ex (grow (hide D (grow G H H3)) H3 H4) (hide D (grow G H H5)) ∧ Grw K P w G H D H5 (fun z => (∃ d ∈ as.take i, ∃ x ∈ bs d, f d x = z) ∨ ∃ x ∈ (bs d).take k, f d x = z),
        ⟨(bs d).length, by simp, Nat.zero_le _, eH.trans e4, within_exO e' a3, (hgr.up e4).as fun k => by simp⟩, ?_⟩
      rintro k n H5 ⟨rfl, hk, eH5, ew, hg5⟩
      have e5' : Evl.Ex H H5 := e12.trans eH5
      have ewd : Evl.Ex (grow (hide D (grow G H H3)) H3 H4) H5 := ew.trans (hide_ex.trans grow_ex)
      by_cases hlt1 : k < (bs d).length
      · refine .inr ⟨hJ1.go k H5 ewd (by rw [lb]; exact hlt1), fun H5 => k + 1 ≤ (bs d).length ∧ Evl.Ex H2 H5 ∧ Evl.Ex (grow (hide D (grow G H H3)) H3 H4) (hide D (grow G H H5)) ∧ Grw K P w G H D H5 (fun z => (∃ d ∈ as.take i, ∃ x ∈ bs d, f d x = z) ∨ ∃ x ∈ (bs d).take (k + 1), f d x = z), fun H6 w => ⟨(bs d).length - (k + 1), by omega, rfl, w⟩, fun x1 H6 y1 => ?_⟩
        obtain ⟨rfl, dd1, hdk, hx1⟩ := hJ1.yld k x1 H5 H6 ewd (by rw [lb]; exact hlt1) y1
        rw [List.getElem?_map] at hdk
        obtain ⟨d1, hd0k, rfl⟩ := Option.map_eq_some_iff.mp hdk
        replace hdk := hd0k
        have hm1 : d1 ∈ bs d := List.mem_of_getElem? hdk
        obtain ⟨L5, a5, b5, c5, nd5⟩ := hg5.at'
        have S3 := (((((S.withinO hn e5' a5 trivial).wipe vs).putDat j (hx.up (ex_hide (grow_mono eH5) (grow_none hD)))).wipe vs1).putDat j1 (hx1.up ew))
        refine ⟨hj1 _ (some x1), ?_⟩
        rw [tYes_at, if_pos rfl]
        refine (he d hm d1 hm1).1 S3 (Evl.Ex.refl _) fun z H7 e7 hz => ?_
        have hz2 := hz.up (within_exO e5' a5)
        obtain ⟨t, rfl, ht⟩ := dp_tupD hz2
        have b7 : ∀ q ∈ L5, SqT K (hide D (grow G H H7)) q.1 (q.2.map V.int) := fun q hq => ex_t (hide_mono (grow_mono e7)) (b5 q hq)
        have few : L5.length ≤ B.length := by
          rw [← List.length_map (f := (·.2)) (as := L5)]
          refine len_sub nd5 fun k hk => ?_
          rcases (c5 k).mp hk with ⟨d', hd', x', hx', rfl⟩ | ⟨x', hx', rfl⟩
          · exact hb d' (List.mem_of_mem_take hd') x' hx'
          · exact hb d hm x' (List.mem_of_mem_take hx')
        refine ⟨t, f d d1, L5, rfl, ex_t (hide_ex.trans grow_ex) ht, e7 _ _ a5, fun q hq => ex_t (hide_ex.trans grow_ex) (b7 q hq), by omega, fun L' c1 c2 => ⟨hlt1, Evl.Ex.mut (eH5.trans e7) hD, ?_, ?_⟩⟩
        · rw [hide_upd]
          exact ew.trans (hide_mono (grow_mono e7))
        · have key : (∀ q ∈ L', SqT K (hide D (grow G H H7)) q.1 (q.2.map V.int)) ∧ (∀ k', k' ∈ L'.map (·.2) ↔ k' ∈ L5.map (·.2) ∨ f d d1 = k') ∧ (L'.map (·.2)).Nodup := by
            by_cases c : f d d1 ∈ L5.map (·.2)
            · rw [c1 c]
              exact ⟨b7, fun k' => ⟨.inl, fun z => z.elim id fun z => z ▸ c⟩, nd5⟩
            · have pm := c2 c
              have pm2 := pm.map (·.2)
              refine ⟨fun q hq => ?_, fun k' => ?_, pm2.nodup_iff.mpr (List.nodup_cons.mpr ⟨c, nd5⟩)⟩
              · rcases List.mem_cons.mp (pm.mem_iff.mp hq) with rfl | z
                · exact ht
                · exact b7 q z
              · rw [pm2.mem_iff, List.map_cons, List.mem_cons]
                exact ⟨fun z => z.elim (fun z => .inr z.symm) .inl, fun z => z.elim .inr fun z => .inl z.symm⟩
          refine ⟨L', upd_same, ?_, fun k' => ?_, key.2.2⟩
          · rw [hide_upd]
            exact key.1
          · rw [key.2.1, c5, take_ex hdk, or_assoc]
      · have ek : k = (bs d).length := by omega
        subst ek
        refine .inl ⟨by rw [← lb]; exact hJ1.stop H5 ewd, hlt, eH5, hg5.as fun z => ?_⟩
        rw [List.take_length, take_ex hdi]
    · have ei : i = as.length := by omega
      subst ei
      obtain ⟨L, a, b, c, nd⟩ := hgr.at'
      rw [List.take_length] at c
      exact .inl ⟨by rw [← la]; exact hJ.stop H' (grow_ex.trans eH), q D L H' (fresh_back e2 hD) (e2.trans eH) a b c⟩
/-- a list with two sources, what they give told by things of one's own -/
theorem ef_lc2A {α β : Type} {wi wi1 : TI} {j j1 : Nat} {vs vs1 : List Nat} {as : List α} {enc : α → PyData} {enc1 : β → PyData} (bs : α → List β) (g : α → β → PyData) (h : EvI K wi es (as.map enc)) (hz : (as.flatMap fun d => (bs d).map (g d)).length ≤ 50000)
    (hj : ∀ σ x, wipe ((wipe σ vs).set j x) vs = wipe σ vs) (hj1 : ∀ σ x, wipe ((wipe σ vs1).set j1 x) vs1 = wipe σ vs1)
    (h1 : ∀ d ∈ as, EvI K wi1 ((wipeE es vs).set j (.dat (enc d))) ((bs d).map enc1))
    (he : ∀ d ∈ as, ∀ x ∈ bs d, EvE K te ((wipeE ((wipeE es vs).set j (.dat (enc d))) vs1).set j1 (.dat (enc1 x))) (g d x)) : EvF K (tLc2 wi (gName j) tYes wi1 (gName j1) tYes te vs vs1) es (as.flatMap fun d => (bs d).map (g d)) := .mk fun {G H σ} S {H1} e1 {Q} q =>
  h.1 S e1 fun J H2 e2 hJ Dl hD => by
    have e12 := e1.trans e2
    have hn : H Dl = none := fresh_back e12 hD
    have la : (as.map enc).length = as.length := List.length_map _
    refine ⟨fun i m H' => m = as.length - i ∧ i ≤ as.length ∧ Evl.Ex H2 H' ∧ ∃ acc, H' Dl = some (.lst acc) ∧ DpAll K (hide Dl (grow G H H')) acc ((as.take i).flatMap fun d => (bs d).map (g d)), ⟨as.length, by simp, Nat.zero_le _, Evl.Ex.new hD, [], upd_same, .nil⟩, ?_⟩
    rintro i m H' ⟨rfl, hi, eH, acc, ha, hda⟩
    have e' : Evl.Ex H H' := e12.trans eH
    by_cases hlt : i < as.length
    · refine .inr ⟨hJ.go i H' (grow_ex.trans eH) (by rw [la]; exact hlt), fun H' => i + 1 ≤ as.length ∧ Evl.Ex H2 H' ∧ ∃ acc, H' Dl = some (.lst acc) ∧ DpAll K (hide Dl (grow G H H')) acc ((as.take (i + 1)).flatMap fun d => (bs d).map (g d)), fun H3 w => ⟨as.length - (i + 1), by omega, rfl, w⟩, fun x H3 y => ?_⟩
      obtain ⟨rfl, dd, hdi, hx⟩ := hJ.yld i x H' H3 (grow_ex.trans eH) (by rw [la]; exact hlt) y
      rw [List.getElem?_map] at hdi
      obtain ⟨d, hd0, rfl⟩ := Option.map_eq_some_iff.mp hdi
      replace hdi := hd0
      have hm : d ∈ as := List.mem_of_getElem? hdi
      have S2 := ((S.within hn e' ha).wipe vs).putDat j (hx.up (ex_hide (grow_mono eH) (grow_none hD)))
      have tk : (as.take (i + 1)).flatMap (fun d => (bs d).map (g d)) = (as.take i).flatMap (fun d => (bs d).map (g d)) ++ (bs d).map (g d) := by
        rw [List.take_add_one, hdi, List.flatMap_append]
        show _ ++ List.flatMap _ [d] = _
        rw [List.flatMap_singleton]
      have tot : ((as.take (i + 1)).flatMap (fun d => (bs d).map (g d))).length ≤ 50000 := by
        refine Nat.le_trans ?_ hz
        conv => rhs; rw [← List.take_append_drop (i + 1) as, List.flatMap_append, List.length_append]
        exact Nat.le_add_right _ _
      rw [tk, List.length_append, List.length_map] at tot
      refine ⟨hj σ (some x), ?_⟩
      rw [tYes_at, if_pos rfl]
      refine (h1 d hm).1 S2 (Evl.Ex.refl _) fun J1 H4 e4 hJ1 => ?_
      have lb : ((bs d).map enc1).length = (bs d).length := List.length_map _
      refine ⟨fun k n H5 => n = (bs d).length - k ∧ k ≤ (bs d).length ∧ Evl.Ex H2 H5 ∧ Evl.Ex (grow (hide Dl (grow G H H3)) H3 H4) (hide Dl (grow G H H5)) ∧ ∃ acc2, H5 Dl = some (.lst acc2) ∧ DpAll K (hide Dl (grow G H H5)) acc2 ((as.take i).flatMap (fun d => (bs d).map (g d)) ++ ((bs d).take k).map (g d)),
        ⟨(bs d).length, by simp, Nat.zero_le _, eH.trans e4, within_ex e' ha, acc, e4 _ _ ha, ?_⟩, ?_⟩
      · show DpAll K _ acc (_ ++ [])
        rw [List.append_nil]
        exact hda.up (hide_mono (grow_mono e4))
      rintro k n H5 ⟨rfl, hk, eH5, ew, acc2, a5, hd5⟩
      have e5' : Evl.Ex H H5 := e12.trans eH5
      have ewd : Evl.Ex (grow (hide Dl (grow G H H3)) H3 H4) H5 := ew.trans (hide_ex.trans grow_ex)
      by_cases hlt1 : k < (bs d).length
      · refine .inr ⟨hJ1.go k H5 ewd (by rw [lb]; exact hlt1), fun H5 => k + 1 ≤ (bs d).length ∧ Evl.Ex H2 H5 ∧ Evl.Ex (grow (hide Dl (grow G H H3)) H3 H4) (hide Dl (grow G H H5)) ∧ ∃ acc2, H5 Dl = some (.lst acc2) ∧ DpAll K (hide Dl (grow G H H5)) acc2 ((as.take i).flatMap (fun d => (bs d).map (g d)) ++ ((bs d).take (k + 1)).map (g d)), fun H6 w => ⟨(bs d).length - (k + 1), by omega, rfl, w⟩, fun x1 H6 y1 => ?_⟩
        obtain ⟨rfl, dd1, hdk, hx1⟩ := hJ1.yld k x1 H5 H6 ewd (by rw [lb]; exact hlt1) y1
        rw [List.getElem?_map] at hdk
        obtain ⟨d1, hd0k, rfl⟩ := Option.map_eq_some_iff.mp hdk
        replace hdk := hd0k
        have hm1 : d1 ∈ bs d := List.mem_of_getElem? hdk
        have hx2 : Dp K (hide Dl (grow G H H6)) x (enc d) := hx.up (ex_hide (grow_mono eH5) (grow_none hD))
        have S3 := (((((S.within hn e5' a5).wipe vs).putDat j hx2).wipe vs1).putDat j1 (hx1.up ew))
        refine ⟨hj1 _ (some x1), ?_⟩
        rw [tYes_at, if_pos rfl]
        refine (he d hm d1 hm1).1 S3 (Evl.Ex.refl _) fun z H7 e7 hz' => ?_
        have lacc : acc2.length < 100000 := by
          rw [dpa_len hd5, List.length_append, List.length_map, List.length_take]
          have : min k (bs d).length ≤ (bs d).length := Nat.min_le_right _ _
          omega
        refine ⟨acc2, e7 _ _ a5, sz_lt lacc, hlt1, Evl.Ex.mut (eH5.trans e7) hD, ?_, acc2 ++ [z], upd_same, ?_⟩
        · rw [hide_upd]
          exact ew.trans (hide_mono (grow_mono e7))
        · rw [hide_upd, List.take_add_one, hdk, List.map_append, ← List.append_assoc]
          exact dpa_snoc (hd5.up (hide_mono (grow_mono e7))) (hz'.up (within_ex e5' a5))
      · have e : k = (bs d).length := by omega
        subst e
        refine .inl ⟨by rw [← lb]; exact hJ1.stop H5 ewd, hlt, eH5, acc2, a5, ?_⟩
        rw [tk]
        rw [List.take_length] at hd5
        exact hd5
    · have e : i = as.length := by omega
      subst e
      refine .inl ⟨by rw [← la]; exact hJ.stop H' (grow_ex.trans eH), q Dl acc H' (fresh_back e2 hD) (e2.trans eH) ha ?_⟩
      rw [List.take_length] at hda
      exact hda
theorem eq_of_rk : ∀ {M R : List (List Int)}, M.Pairwise (fun a b => rk2 a < rk2 b) → R.Pairwise (fun a b => rk2 a < rk2 b) → (∀ k, k ∈ M ↔ k ∈ R) → M = R
  | [], [], _, _, _ => rfl
  | [], r :: R, _, _, h => nomatch (h r).mpr List.mem_cons_self
  | m :: M, [], _, _, h => nomatch (h m).mp List.mem_cons_self
  | m :: M, r :: R, hM, hR, h => by
    obtain ⟨m1, m2⟩ := List.pairwise_cons.mp hM
    obtain ⟨r1, r2⟩ := List.pairwise_cons.mp hR
    have e : m = r := by
      rcases List.mem_cons.mp ((h m).mp List.mem_cons_self) with z | z
      · exact z
      rcases List.mem_cons.mp ((h r).mpr List.mem_cons_self) with z' | z'
      · exact z'.symm
      have := r1 m z
      have := m1 r z'
      omega
    subst e
    rw [eq_of_rk m2 r2 fun k => ?_]
    constructor
    · intro hk
      rcases List.mem_cons.mp ((h k).mp (List.mem_cons_of_mem _ hk)) with z | z
      · have := m1 k hk
        rw [z] at this
        omega
      · exact z
    · intro hk
      rcases List.mem_cons.mp ((h k).mpr (List.mem_cons_of_mem _ hk)) with z | z
      · have := r1 k hk
        rw [z] at this
        omega
      · exact z
theorem rk2_inj {a b : List Int} (ha : Pr2 a) (hb : Pr2 b) (h : rk2 a = rk2 b) : a = b := by
  obtain ⟨x, y, rfl, h1, h2⟩ := ha
  obtain ⟨u, v, rfl, h3, h4⟩ := hb
  have h' : x * 1000 + y = u * 1000 + v := h
  have e1 : x = u := by omega
  have e2 : y = v := by omega
  rw [e1, e2]
theorem ef_sortP {ks : List Int → Prop} (R : List (List Int)) (h : EvT K P w te es ks) (hp : ∀ k, ks k → Pr2 k) (hR : R.Pairwise (fun a b => rk2 a < rk2 b)) (hk : ∀ k, k ∈ R ↔ ks k) : EvF K (tCB (rSortP K P w) (tCons te tNil)) es (R.map tupD) := .mk fun {G H σ} S {H1} e1 {Q} q =>
  h.1 S e1 fun D L H2 hn e2 hD hL hm => by
    have pr : ∀ z ∈ L, Pr2 z.2 := fun z hz => hp _ ((hm _).mp (List.mem_map.mpr ⟨z, hz, rfl⟩))
    refine ⟨D, L, rfl, hD, fun z hz => ⟨ex_t (hide_ex.trans grow_ex) (hL z hz), pr z hz⟩, fun M p pm nd hf pw hpn => ?_⟩
    have e3 : Evl.Ex H1 (upd H2 p (.lst (M.map fun q => V.ref q.1))) := e2.trans (Evl.Ex.new hpn)
    refine q p _ _ (fresh_back e2 hpn) e3 upd_same ?_
    have eM : M.map (·.2) = R := by
      refine eq_of_rk (List.pairwise_map.mpr ?_) hR fun k => by rw [(pm.map (·.2)).mem_iff, hm, hk]
      have both : M.Pairwise fun q r => rk2 q.2 ≤ rk2 r.2 ∧ q.2 ≠ r.2 := pw.and (List.pairwise_map.mp nd)
      refine both.imp_of_mem fun {a b} ha hb hab => ?_
      have h1 : rk2 a.2 ≠ rk2 b.2 := fun z => hab.2 (rk2_inj (pr a (pm.mem_iff.mp ha)) (pr b (pm.mem_iff.mp hb)) z)
      have h2 := hab.1
      omega
    rw [← eM, List.map_map]
    have base : ∀ z ∈ M, SqT K (hide p (grow G H (upd H2 p (.lst (M.map fun q => V.ref q.1))))) z.1 (z.2.map V.int) := fun z hz => by
      rw [hide_upd]
      refine ex_t (fun a o ha => ?_) (hL z (pm.mem_iff.mp hz))
      have ne : a ≠ p := fun z => by
        have := (hide_ex.trans grow_ex) _ _ ha
        rw [z, hpn] at this
        cases this
      rw [hide_ne ne]
      exact hide_ex _ _ ha
    clear pm nd hf pw eM e3
    generalize hide p (grow G H (upd H2 p (.lst (M.map fun q => V.ref q.1)))) = HH at base
    induction M with
    | nil => exact .nil
    | cons z M ih => exact .cons (.tup (base z List.mem_cons_self) dpa_mkInts) (ih fun y hy => base y (List.mem_cons_of_mem _ hy))
end
theorem pi_listK {X : Cx} {K : PySem.W.Frag} {tg l : Expr} {tl : TE} (h : X.K = K) (hl : PE X l tl) : PI X tg l (iList K tl) := h ▸ pi_list hl
theorem pi_tupK {X : Cx} {K : PySem.W.Frag} {tg l : Expr} {tl : TE} (h : X.K = K) (hl : PE X l tl) : PI X tg l (iTup K tl) := h ▸ pi_tup hl
end Pu

/-! own layer, second make: objects of one's own in a store, numbered; what is evaluated may change them -/
namespace Pv
open PySem PySem.Spec L2
open Evl (Ex)

/-- what may be private: no tuple -/
def NT : HO → Prop
  | .tup _ => False
  | _ => True
abbrev P2 := Int × Int
def isI : PyData → Bool
  | .int _ => true
  | _ => false
/-! data; a tuple of ints alone is a tracked one -/
mutual
inductive Dq (K : PySem.W.Frag) (G : Hp) : V → PyData → Prop
  | non : Dq K G .non .none
  | bl (b : Bool) : Dq K G (.bl b) (.bool b)
  | int (i : Int) : Dq K G (.int i) (.int i)
  | str (x : Str) : Dq K G (.str x) (.str x)
  | lst {a : Addr} {xs : List V} {ds : List PyData} : SqL K G a xs → DqAll K G xs ds → Dq K G (.ref a) (.list ds)
  | tup {a : Addr} {xs : List V} {ds : List PyData} : SqT K G a xs → (ds.all isI = true → G a = some (.tup xs)) → DqAll K G xs ds → Dq K G (.ref a) (.tuple ds)
inductive DqAll (K : PySem.W.Frag) (G : Hp) : List V → List PyData → Prop
  | nil : DqAll K G [] []
  | cons {v : V} {vs : List V} {d : PyData} {ds : List PyData} : Dq K G v d → DqAll K G vs ds → DqAll K G (v :: vs) (d :: ds)
end
section
variable {K : PySem.W.Frag} {G G' : Hp}
mutual
theorem dq_ex (e : Ex G G') : ∀ (d : PyData) (v : V), Dq K G v d → Dq K G' v d
  | .none, _, h => by cases h; exact .non
  | .bool b, _, h => by cases h; exact .bl b
  | .int i, _, h => by cases h; exact .int i
  | .str x, _, h => by cases h; exact .str x
  | .list ds, _, h => by
    cases h with
    | lst hs ha => exact .lst (Evl.ex_l e hs) (dqa_ex e ds _ ha)
  | .tuple ds, _, h => by
    cases h with
    | tup hs hi ha => exact .tup (Evl.ex_t e hs) (fun z => e _ _ (hi z)) (dqa_ex e ds _ ha)
  | .dict _, _, h => by cases h
theorem dqa_ex (e : Ex G G') : ∀ (ds : List PyData) (vs : List V), DqAll K G vs ds → DqAll K G' vs ds
  | [], _, h => by cases h; exact .nil
  | d :: ds, _, h => by
    cases h with
    | cons h1 h2 => exact .cons (dq_ex e d _ h1) (dqa_ex e ds _ h2)
end
theorem Dq.up {v : V} {d : PyData} (h : Dq K G v d) (e : Ex G G') : Dq K G' v d := dq_ex e d v h
theorem DqAll.up {vs : List V} {ds : List PyData} (h : DqAll K G vs ds) (e : Ex G G') : DqAll K G' vs ds := dqa_ex e ds vs h
mutual
theorem dq_dp : ∀ (d : PyData) (v : V), Dq K G v d → Dp K G v d
  | .none, _, h => by cases h; exact .non
  | .bool b, _, h => by cases h; exact .bl b
  | .int i, _, h => by cases h; exact .int i
  | .str x, _, h => by cases h; exact .str x
  | .list ds, _, h => by
    cases h with
    | lst hs ha => exact .lst hs (dqa_dp ds _ ha)
  | .tuple ds, _, h => by
    cases h with
    | tup hs hi ha => exact .tup hs (dqa_dp ds _ ha)
  | .dict _, _, h => by cases h
theorem dqa_dp : ∀ (ds : List PyData) (vs : List V), DqAll K G vs ds → DpAll K G vs ds
  | [], _, h => by cases h; exact .nil
  | d :: ds, _, h => by
    cases h with
    | cons h1 h2 => exact .cons (dq_dp d _ h1) (dqa_dp ds _ h2)
end
theorem Dq.dp {v : V} {d : PyData} (h : Dq K G v d) : Dp K G v d := dq_dp d v h
theorem dq_int {v : V} {i : Int} (h : Dq K G v (.int i)) : v = .int i := by cases h; rfl
theorem dq_bl {v : V} {b : Bool} (h : Dq K G v (.bool b)) : v = .bl b := by cases h; rfl
theorem dq_str {v : V} {x : Str} (h : Dq K G v (.str x)) : v = .str x := by cases h; rfl
theorem dq_non {v : V} (h : Dq K G v .none) : v = .non := by cases h; rfl
end
/-! ### things: data, or an object of the store -/
inductive It where
  | dat (d : PyData)
  | ob (i : Nat)
/-- an object of a kind of its own: what it looks like, by what is shared -/
structure Xo where
  φ : Hp → Addr → HO → Prop
  up : ∀ {G G' : Hp} {p : Addr} {o : HO}, Ex G G' → φ G p o → φ G' p o
  no : ∀ {G : Hp} {p : Addr} {o : HO}, φ G p o → NT o ∧ ∀ q, o ≠ .own q
/-- an object, what it holds being things; .nil: nothing is known -/
inductive Ob where
  | lst (xs : List It)
  | dic (m : List (P2 × It))
  /-- a dict while it is walked -/
  | dicF (od : Obj) (kvs : List (List Key × V)) (m : List (P2 × It))
  | ins (C : Addr) (fs : List (Str × It))
  | ext (x : Xo)
  | nil
def ItAt (K : PySem.W.Frag) (G : Hp) (ρ : List Addr) (v : V) : It → Prop
  | .dat d => Dq K G v d
  | .ob i => ∃ p, v = .ref p ∧ ρ[i]? = some p
abbrev Its (K : PySem.W.Frag) (G : Hp) (ρ : List Addr) : List V → List It → Prop := Paired (fun v x => ItAt K G ρ v x)
/-- a place as a key -/
def pk (p : P2) : List Key := [Sum.inl p.1, Sum.inl p.2]
theorem pk_inj {p q : P2} (h : pk p = pk q) : p = q := by
  unfold pk at h
  simp at h
  exact Prod.ext h.1 h.2
def ObAt (K : PySem.W.Frag) (G H : Hp) (ρ : List Addr) (p : Addr) : Ob → Prop
  | .lst xs => ∃ vs, H p = some (.lst vs) ∧ Its K G ρ vs xs
  | .dic m => ∃ kvs, H p = some (.dT kvs) ∧ Paired (fun (a : List Key × V) (b : P2 × It) => a.1 = pk b.1 ∧ ItAt K G ρ a.2 b.2) kvs m
  | .dicF od kvs m => H p = some (.frz od (.dT kvs)) ∧ Paired (fun (a : List Key × V) (b : P2 × It) => a.1 = pk b.1 ∧ ItAt K G ρ a.2 b.2) kvs m
  | .ins C fs => ∃ dx fv, H p = some (.ins C dx fv) ∧ H dx = some (.own p) ∧ G dx = none ∧ dx ∉ ρ ∧ Paired (fun (a : Str × V) (b : Str × It) => a.1 = b.1 ∧ ItAt K G ρ a.2 b.2) fv fs
  | .ext x => ∃ o, H p = some o ∧ x.φ G p o
  | .nil => True
/-- what may be private -/
abbrev Prv (G H : Hp) : Prop := ∀ a o, G a = none → H a = some o → NT o
/-- the shared part and the store -/
structure Sh (K : PySem.W.Frag) (G H : Hp) (ρ : List Addr) (st : List Ob) : Prop where
  ex : Ex G H
  prv : Prv G H
  len : ρ.length = st.length
  nd : ρ.Nodup
  pr : ∀ p ∈ ρ, G p = none ∧ ∃ o, H p = some o
  ob : ∀ (i : Nat) (o : Ob) (p : Addr), st[i]? = some o → ρ[i]? = some p → ObAt K G H ρ p o
inductive Ent where
  | no
  | it (x : It)
  | rng (lo hi : Int)
abbrev Ent.dat (d : PyData) : Ent := .it (.dat d)
abbrev Ent.ob (i : Nat) : Ent := .it (.ob i)
abbrev Es := List Ent
def EntAt (K : PySem.W.Frag) (G : Hp) (ρ : List Addr) (x : Option (Option V)) : Ent → Prop
  | .no => True
  | .it t => ∃ v, x = some (some v) ∧ ItAt K G ρ v t
  | .rng lo hi => ∃ p, x = some (some (.ref p)) ∧ G p = some (.rng lo hi)
structure Se (K : PySem.W.Frag) (G : Hp) (ρ : List Addr) (σ : L2.St) (es : Es) : Prop where
  len : es.length = σ.length
  ent : ∀ (i : Nat) (e : Ent), es[i]? = some e → EntAt K G ρ σ[i]? e
/-- how a state goes on: what is shared stays, numbers stay, what is private and in no store is left as it is -/
structure Mv (G H : Hp) (ρ : List Addr) (G' H' : Hp) (ρ' : List Addr) : Prop where
  ex : Ex G G'
  pre : ρ <+: ρ'
  fm : ∀ a o, H a = some o → G a = none → a ∉ ρ → H' a = some o ∧ G' a = none ∧ a ∉ ρ'
  al : ∀ a, H' a = none → H a = none
  nw : ∀ p ∈ ρ', p ∉ ρ → H p = none
section
variable {K : PySem.W.Frag} {G G' G2 H H' H2 : Hp} {ρ ρ' ρ2 : List Addr} {σ : L2.St} {es : Es} {st : List Ob}
theorem Mv.refl : Mv G H ρ G H ρ := ⟨Ex.refl _, List.prefix_refl _, fun a o h1 h2 h3 => ⟨h1, h2, h3⟩, fun a h => h, fun p h1 h2 => absurd h1 h2⟩
theorem Mv.trans (m : Mv G H ρ G' H' ρ') (m2 : Mv G' H' ρ' G2 H2 ρ2) : Mv G H ρ G2 H2 ρ2 where
  ex := m.ex.trans m2.ex
  pre := m.pre.trans m2.pre
  fm := fun a o h1 h2 h3 => by
    obtain ⟨a1, a2, a3⟩ := m.fm a o h1 h2 h3
    exact m2.fm a o a1 a2 a3
  al := fun a h => m.al a (m2.al a h)
  nw := fun p h1 h2 => by
    by_cases h : p ∈ ρ'
    · exact m.nw p h h2
    · exact m.al p (m2.nw p h1 h)
theorem pre_get {α : Type} {l l' : List α} (h : l <+: l') {i : Nat} {x : α} (e : l[i]? = some x) : l'[i]? = some x := by
  obtain ⟨t, rfl⟩ := h
  rw [List.getElem?_append_left (List.getElem?_eq_some_iff.mp e).1]
  exact e
theorem ItAt.up {v : V} (e : Ex G G') (pr : ρ <+: ρ') : ∀ {x : It}, ItAt K G ρ v x → ItAt K G' ρ' v x
  | .dat d, h => Dq.up h e
  | .ob i, ⟨p, a, b⟩ => ⟨p, a, pre_get pr b⟩
theorem Its.up {vs : List V} {xs : List It} (h : Its K G ρ vs xs) (e : Ex G G') (pr : ρ <+: ρ') : Its K G' ρ' vs xs := L2.Paired.mapP h fun _ _ z => z.up e pr
theorem EntAt.up {x : Option (Option V)} (e : Ex G G') (pr : ρ <+: ρ') : ∀ {t : Ent}, EntAt K G ρ x t → EntAt K G' ρ' x t
  | .no, _ => True.intro
  | .it t, ⟨v, a, b⟩ => ⟨v, a, b.up e pr⟩
  | .rng lo hi, ⟨p, a, b⟩ => ⟨p, a, e _ _ b⟩
theorem Se.up (S : Se K G ρ σ es) (e : Ex G G') (pr : ρ <+: ρ') : Se K G' ρ' σ es := ⟨S.len, fun i t h => (S.ent i t h).up e pr⟩
theorem Se.mv (S : Se K G ρ σ es) (m : Mv G H ρ G' H' ρ') : Se K G' ρ' σ es := S.up m.ex m.pre
theorem fresh_back (e : Ex G H) {p : Addr} (h : H p = none) : G p = none := by
  cases q : G p with
  | none => rfl
  | some o =>
    rw [e _ _ q] at h
    cases h
/-- an object whose contents' parts stay -/
theorem ObAt.up {p : Addr} (e : Ex G G') (pr : ρ <+: ρ') (hp : H' p = H p) (hd : ∀ dx, H dx = some (.own p) → G dx = none → dx ∉ ρ → H' dx = H dx ∧ G' dx = none ∧ dx ∉ ρ') : ∀ {o : Ob}, ObAt K G H ρ p o → ObAt K G' H' ρ' p o
  | .lst xs, ⟨vs, a, b⟩ => ⟨vs, by rw [hp]; exact a, b.up e pr⟩
  | .dic m, ⟨kvs, a, b⟩ => ⟨kvs, by rw [hp]; exact a, L2.Paired.mapP b fun _ _ z => ⟨z.1, z.2.up e pr⟩⟩
  | .dicF od kvs m, ⟨a, b⟩ => ⟨by rw [hp]; exact a, L2.Paired.mapP b fun _ _ z => ⟨z.1, z.2.up e pr⟩⟩
  | .ins C fs, ⟨dx, fv, a, b, c, d, f⟩ => by
    obtain ⟨h1, h2, h3⟩ := hd dx b c d
    exact ⟨dx, fv, by rw [hp]; exact a, by rw [h1]; exact b, h2, h3, L2.Paired.mapP f fun _ _ z => ⟨z.1, z.2.up e pr⟩⟩
  | .ext x, ⟨o, a, b⟩ => ⟨o, by rw [hp]; exact a, x.up e b⟩
  | .nil, _ => True.intro
/-! a new thing that all share -/
theorem Sh.shared (S : Sh K G H ρ st) {p : Addr} (o : HO) (hp : H p = none) : Sh K (upd G p o) (upd H p o) ρ st ∧ Mv G H ρ (upd G p o) (upd H p o) ρ := by
  have gp : G p = none := fresh_back S.ex hp
  have np : ∀ q ∈ ρ, q ≠ p := fun q hq z => by
    obtain ⟨_, u, hu⟩ := S.pr q hq
    rw [z, hp] at hu
    cases hu
  have e : Ex G (upd G p o) := Ex.new gp
  refine ⟨⟨fun a u h => ?_, fun a u h1 h2 => ?_, S.len, S.nd, fun q hq => ?_, fun i ob q h1 h2 => ?_⟩, e, List.prefix_refl _, fun a u h1 h2 h3 => ?_, fun a h => ?_, ?_⟩
  · by_cases z : a = p
    · rw [z, upd_same] at h
      rw [z, upd_same]
      exact h
    · rw [upd_ne z] at h ⊢
      exact S.ex a u h
  · by_cases z : a = p
    · rw [z, upd_same] at h1
      cases h1
    · rw [upd_ne z] at h1 h2
      exact S.prv a u h1 h2
  · rw [upd_ne (np q hq), upd_ne (np q hq)]
    exact S.pr q hq
  · have hq := List.mem_of_getElem? h2
    refine (S.ob i ob q h1 h2).up e (List.prefix_refl _) (upd_ne (np q hq)) fun dx h3 h4 h5 => ?_
    have z : dx ≠ p := fun z => by
      rw [z, hp] at h3
      cases h3
    exact ⟨upd_ne z, by rw [upd_ne z]; exact h4, h5⟩
  · have z : a ≠ p := fun z => by
      rw [z, hp] at h1
      cases h1
    exact ⟨by rw [upd_ne z]; exact h1, by rw [upd_ne z]; exact h2, h3⟩
  · by_cases z : a = p
    · rw [z, upd_same] at h
      cases h
    · rw [upd_ne z] at h
      exact h
  · exact fun q h1 h2 => absurd h1 h2
/-- a new thing that is private, in no store as yet -/
theorem Sh.priv (S : Sh K G H ρ st) {p : Addr} {o : HO} (nt : NT o) (hp : H p = none) : Sh K G (upd H p o) ρ st ∧ Mv G H ρ G (upd H p o) ρ := by
  have gp : G p = none := fresh_back S.ex hp
  have np : ∀ q ∈ ρ, q ≠ p := fun q hq z => by
    obtain ⟨_, u, hu⟩ := S.pr q hq
    rw [z, hp] at hu
    cases hu
  have e : Ex H (upd H p o) := Ex.new hp
  refine ⟨⟨S.ex.trans e, fun a u h1 h2 => ?_, S.len, S.nd, fun q hq => ?_, fun i ob q h1 h2 => ?_⟩, Ex.refl _, List.prefix_refl _, fun a u h1 h2 h3 => ⟨e _ _ h1, h2, h3⟩, fun a h => ?_, ?_⟩
  · by_cases z : a = p
    · rw [z, upd_same] at h2
      cases h2
      exact nt
    · rw [upd_ne z] at h2
      exact S.prv a u h1 h2
  · rw [upd_ne (np q hq)]
    exact S.pr q hq
  · have hq := List.mem_of_getElem? h2
    refine (S.ob i ob q h1 h2).up (Ex.refl _) (List.prefix_refl _) (upd_ne (np q hq)) fun dx h3 h4 h5 => ⟨?_, h4, h5⟩
    exact upd_ne fun z => by
      rw [z, hp] at h3
      cases h3
  · by_cases z : a = p
    · rw [z, upd_same] at h
      cases h
    · rw [upd_ne z] at h
      exact h
  · exact fun q h1 h2 => absurd h1 h2
/-- what is private, in no store, and lists: shared from here on -/
theorem Sh.share (S : Sh K G H ρ st) {p : Addr} {o : HO} (gp : G p = none) (hp : H p = some o) (np : p ∉ ρ) (no : ∀ q, o ≠ .own q) : Sh K (upd G p o) H ρ st := by
  have e : Ex G (upd G p o) := Ex.new gp
  refine ⟨fun a u h => ?_, fun a u h1 h2 => ?_, S.len, S.nd, fun q hq => ?_, fun i ob q h1 h2 => ?_⟩
  · by_cases z : a = p
    · rw [z, upd_same] at h
      cases h
      rw [z]
      exact hp
    · rw [upd_ne z] at h
      exact S.ex a u h
  · by_cases z : a = p
    · rw [z, upd_same] at h1
      cases h1
    · rw [upd_ne z] at h1
      exact S.prv a u h1 h2
  · have z : q ≠ p := fun z => np (z ▸ hq)
    rw [upd_ne z]
    exact S.pr q hq
  · refine (S.ob i ob q h1 h2).up e (List.prefix_refl _) rfl fun dx h3 h4 h5 => ?_
    have z : dx ≠ p := fun z => by
      rw [z, hp] at h3
      cases h3
      exact no q rfl
    exact ⟨rfl, by rw [upd_ne z]; exact h4, h5⟩
/-- the same, into the store -/
theorem Sh.store (S : Sh K G H ρ st) {p : Addr} {o : Ob} (gp : G p = none) (np : p ∉ ρ) (hp : ∃ u, H p = some u) (nw : ∀ q, H p ≠ some (.own q)) (ho : ObAt K G H (ρ ++ [p]) p o) : Sh K G H (ρ ++ [p]) (st ++ [o]) := by
  have pr : ρ <+: ρ ++ [p] := List.prefix_append _ _
  refine ⟨S.ex, S.prv, by rw [List.length_append, List.length_append, S.len]; rfl, List.nodup_append.mpr ⟨S.nd, by simp, fun a ha b hb z => ?_⟩, fun q hq => ?_, fun i ob q h1 h2 => ?_⟩
  · rw [List.mem_singleton.mp hb] at z
    exact np (z ▸ ha)
  · rcases List.mem_append.mp hq with hq | hq
    · exact S.pr q hq
    · rw [List.mem_singleton.mp hq]
      exact ⟨gp, hp⟩
  · by_cases hi : i < st.length
    · rw [List.getElem?_append_left hi] at h1
      rw [List.getElem?_append_left (by rw [S.len]; exact hi)] at h2
      refine (S.ob i ob q h1 h2).up (Ex.refl _) pr rfl fun dx h3 h4 h5 => ⟨rfl, h4, fun z => ?_⟩
      rcases List.mem_append.mp z with z | z
      · exact h5 z
      · rw [List.mem_singleton.mp z] at h3
        exact nw q h3
    · have e1 : i = st.length := by
        have := (List.getElem?_eq_some_iff.mp h1).1
        rw [List.length_append] at this
        have : i < st.length + 1 := this
        omega
      subst e1
      rw [List.getElem?_append_right (Nat.le_refl _), Nat.sub_self] at h1
      rw [← S.len, List.getElem?_append_right (Nat.le_refl _), Nat.sub_self] at h2
      cases h1
      cases h2
      exact ho
/-- an object of the store changes -/
theorem Sh.set (S : Sh K G H ρ st) {i : Nat} {p : Addr} {u : HO} {o : Ob} (hi : ρ[i]? = some p) (nt : NT u) (nw : ∀ q, H p ≠ some (.own q)) (ho : ObAt K G (upd H p u) ρ p o) : Sh K G (upd H p u) ρ (st.set i o) ∧ Mv G H ρ G (upd H p u) ρ := by
  have hm := List.mem_of_getElem? hi
  have gp := (S.pr p hm).1
  refine ⟨⟨fun a v h => ?_, fun a v h1 h2 => ?_, by rw [List.length_set]; exact S.len, S.nd, fun q hq => ⟨(S.pr q hq).1, ?_⟩, fun j ob q h1 h2 => ?_⟩, Ex.refl _, List.prefix_refl _, fun a v h1 h2 h3 => ⟨?_, h2, h3⟩, fun a h => ?_, ?_⟩
  · rw [upd_ne fun z => by rw [z, gp] at h; cases h]
    exact S.ex a v h
  · by_cases z : a = p
    · rw [z, upd_same] at h2
      cases h2
      exact nt
    · rw [upd_ne z] at h2
      exact S.prv a v h1 h2
  · by_cases z : q = p
    · exact ⟨u, by rw [z, upd_same]⟩
    · rw [upd_ne z]
      exact (S.pr q hq).2
  · rcases Pu.set_get h1 with ⟨z, z2, _⟩ | ⟨z, h1⟩
    · subst z
      subst z2
      rw [hi] at h2
      cases h2
      exact ho
    · have ne : q ≠ p := fun z2 => by
        subst z2
        exact z ((List.getElem?_inj (List.getElem?_eq_some_iff.mp h2).1 S.nd).mp (h2.trans hi.symm))
      refine (S.ob j ob q h1 h2).up (Ex.refl _) (List.prefix_refl _) (upd_ne ne) fun dx h3 h4 h5 => ⟨?_, h4, h5⟩
      exact upd_ne fun z => by
        rw [z] at h3
        exact nw q h3
  · rw [upd_ne fun z => h3 (by rw [z]; exact hm)]
    exact h1
  · by_cases z : a = p
    · rw [z, upd_same] at h
      cases h
    · rw [upd_ne z] at h
      exact h
  · exact fun q h1 h2 => absurd h1 h2
theorem Se.put (S : Se K G ρ σ es) (i : Nat) {v : Option V} {e : Ent} (h : EntAt K G ρ (some v) e) : Se K G ρ (σ.set i v) (es.set i e) := by
  refine ⟨by rw [List.length_set, List.length_set]; exact S.len, fun j t hj => ?_⟩
  rcases Pu.set_get hj with ⟨z, z2, z3⟩ | ⟨z, hj⟩
  · subst z
    subst z2
    rw [Pu.get_set (by rw [← S.len]; exact z3)]
    exact h
  · rw [Pu.get_set_ne z]
    exact S.ent j t hj
/-- the slots of a comprehension's own names -/
def wipeE (es : Es) : List Nat → Es
  | [] => es
  | v :: vs => (wipeE es vs).set v .no
theorem Se.wipe (S : Se K G ρ σ es) : ∀ vs : List Nat, Se K G ρ (L2.wipe σ vs) (wipeE es vs)
  | [] => S
  | v :: vs => (S.wipe vs).put v (v := none) (e := .no) True.intro
end
end Pv

/-! second make: what expressions give -/
namespace Pv
open PySem PySem.Spec L2
open Evl (Ex sz_of sz_lt rLenS rMax2 rListS)
open Pu (rMin2)
open PyProof.Rows (envOfC)

/-- a thing, or an object that nobody knows as yet -/
inductive Rv where
  | it (x : It)
  | fr (o : Ob)
abbrev Rv.dat (d : PyData) : Rv := .it (.dat d)
abbrev Rv.ob (i : Nat) : Rv := .it (.ob i)
def RvAt (K : PySem.W.Frag) (G H : Hp) (ρ : List Addr) (H0 : Hp) (v : V) : Rv → Prop
  | .it x => ItAt K G ρ v x
  | .fr o => ∃ p, v = .ref p ∧ H0 p = none ∧ G p = none ∧ p ∉ ρ ∧ (∃ u, H p = some u) ∧ (∀ q, H p ≠ some (.own q)) ∧ ObAt K G H ρ p o
/-- what is wished of an exception, by the slots -/
abbrev WE := Value → Option Addr → L2.St → Hp → Prop
abbrev cW (E : XK) : WE := fun cls d _ H => E cls d H
section
variable (K : PySem.W.Frag)
structure Ev (te : TE) (es : Es) (st st' : List Ob) (r : Rv) : Prop where
  run : ∀ {G H : Hp} {ρ : List Addr} {σ : L2.St}, Sh K G H ρ st → Se K G ρ σ es → ∀ {Q : VK}, (∀ v G' H' ρ', Mv G H ρ G' H' ρ' → Sh K G' H' ρ' st' → RvAt K G' H' ρ' H v r → Q v H') → te σ H Q
structure EvB (tt : TT) (es : Es) (st st' : List Ob) (b : Bool) : Prop where
  run : ∀ {G H : Hp} {ρ : List Addr} {σ : L2.St}, Sh K G H ρ st → Se K G ρ σ es → ∀ {Q : Bool → Hp → Prop}, (∀ G' H' ρ', Mv G H ρ G' H' ρ' → Sh K G' H' ρ' st' → Q b H') → tt σ H Q
structure EvA (ta : TA) (es : Es) (st st' : List Ob) (xs : List It) : Prop where
  run : ∀ {G H : Hp} {ρ : List Addr} {σ : L2.St}, Sh K G H ρ st → Se K G ρ σ es → ∀ {Q : List V → Hp → Prop}, (∀ vs G' H' ρ', Mv G H ρ G' H' ρ' → Sh K G' H' ρ' st' → Its K G' ρ' vs xs → Q vs H') → ta σ H Q
structure EvO (to : TO) (es : Es) (st st' : List Ob) (o : Option Int) : Prop where
  run : ∀ {G H : Hp} {ρ : List Addr} {σ : L2.St}, Sh K G H ρ st → Se K G ρ σ es → ∀ {Q : Option Int → Hp → Prop}, (∀ G' H' ρ', Mv G H ρ G' H' ρ' → Sh K G' H' ρ' st' → Q o H') → to σ H Q
/-- an expression that raises -/
structure ExC (W : WE) (te : TE) (es : Es) (st : List Ob) (C : Addr) (st' : List Ob) : Prop where
  run : ∀ {G H : Hp} {ρ : List Addr} {σ : L2.St}, Sh K G H ρ st → Se K G ρ σ es → (∀ G' H' ρ', Mv G H ρ G' H' ρ' → Sh K G' H' ρ' st' → W (.ref C) none σ H') → ∀ {Q : VK}, te σ H Q
end
section
variable {K : PySem.W.Frag} {es : Es} {st st1 st2 st3 : List Ob} {ta tb tc : TE} {t u : TT} {d e : PyData} {ds : List PyData} {x y : It} {xs ys : List It} {r : Rv} {W : WE}
theorem ev_is {r' : Rv} (h : Ev K ta es st st1 r) (z : r = r') : Ev K ta es st st1 r' := z ▸ h
theorem ev_st (h : Ev K ta es st st1 r) (z : st1 = st2) : Ev K ta es st st2 r := z ▸ h
theorem eb_is {b c : Bool} (h : EvB K t es st st1 b) (z : b = c) : EvB K t es st st1 c := z ▸ h
theorem dqa_its {G : Hp} {ρ : List Addr} : ∀ {vs : List V} {ds : List PyData}, Its K G ρ vs (ds.map It.dat) → DqAll K G vs ds
  | _, [], h => by cases h; exact .nil
  | _, d :: ds, h => by
    cases h with
    | cons a b => exact .cons a (dqa_its b)
theorem its_dqa {G : Hp} {ρ : List Addr} : ∀ {vs : List V} {ds : List PyData}, DqAll K G vs ds → Its K G ρ vs (ds.map It.dat)
  | _, [], h => by cases h; exact .nil
  | _, d :: ds, h => by
    cases h with
    | cons a b => exact .cons a (its_dqa b)
theorem its_len {G : Hp} {ρ : List Addr} {vs : List V} {xs : List It} (h : Its K G ρ vs xs) : vs.length = xs.length := by
  induction h with
  | nil => rfl
  | cons a b ih => rw [List.length_cons, List.length_cons, ih]
theorem its_at {G : Hp} {ρ : List Addr} {vs : List V} {xs : List It} (h : Its K G ρ vs xs) : ∀ {i : Nat} {x : It}, xs[i]? = some x → ∃ v, vs[i]? = some v ∧ ItAt K G ρ v x := by
  induction h with
  | nil => intro i x e; simp at e
  | cons a b ih =>
    intro i x e
    cases i with
    | zero =>
      cases (show some _ = some x from e)
      exact ⟨_, rfl, a⟩
    | succ i => exact ih (i := i) e
theorem its_ix {G : Hp} {ρ : List Addr} {vs : List V} {xs : List It} {i : Int} {x : It} (h : Its K G ρ vs xs) (hi : atI xs i = some x) : ∃ v, atI vs i = some v ∧ ItAt K G ρ v x := by
  unfold atI at hi ⊢
  rw [its_len h]
  cases hx : ixN xs.length i with
  | none =>
    rw [hx] at hi
    cases hi
  | some j =>
    rw [hx] at hi
    exact its_at h hi
theorem at_map {α β : Type} {f : α → β} {l : List α} {i : Int} {x : α} (h : atI l i = some x) : atI (l.map f) i = some (f x) := by
  unfold atI at h ⊢
  rw [List.length_map]
  cases hx : ixN l.length i with
  | none =>
    rw [hx] at h
    cases h
  | some j =>
    rw [hx] at h
    show (l.map f)[j]? = _
    rw [List.getElem?_map]
    have h : l[j]? = some x := h
    rw [h]
    rfl
theorem dq_lst {G : Hp} {v : V} (h : Dq K G v (.list ds)) : ∃ p vs, v = .ref p ∧ SqL K G p vs ∧ DqAll K G vs ds := by
  cases h with
  | lst a b => exact ⟨_, _, rfl, a, b⟩
theorem dq_tup {G : Hp} {v : V} (h : Dq K G v (.tuple ds)) : ∃ p vs, v = .ref p ∧ SqT K G p vs ∧ (ds.all isI = true → G p = some (.tup vs)) ∧ DqAll K G vs ds := by
  cases h with
  | tup a b c => exact ⟨_, _, rfl, a, b, c⟩
/-! leaves -/
theorem ev_var {i : Nat} (h : es[i]? = some (.it x)) : Ev K (tVar i) es st st (.it x) := .mk fun {G H ρ σ} S T {Q} q => by
  obtain ⟨v, hv, hx⟩ := T.ent i _ h
  exact ⟨v, hv, q v G H ρ Mv.refl S hx⟩
theorem ev_int {i : Int} : Ev K (tC (.int i)) es st st (.dat (.int i)) := .mk fun {G H ρ σ} S T {Q} q => q _ G H ρ Mv.refl S (Dq.int i)
theorem ev_bl {b : Bool} : Ev K (tC (.bl b)) es st st (.dat (.bool b)) := .mk fun {G H ρ σ} S T {Q} q => q _ G H ρ Mv.refl S (Dq.bl b)
theorem ev_str {z : Str} : Ev K (tC (.str z)) es st st (.dat (.str z)) := .mk fun {G H ρ σ} S T {Q} q => q _ G H ρ Mv.refl S (Dq.str z)
theorem ev_non : Ev K (tC .non) es st st (.dat .none) := .mk fun {G H ρ σ} S T {Q} q => q _ G H ρ Mv.refl S Dq.non
/-- a value of the module that is known -/
theorem ev_glob {v : V} (h : Dq K (fun _ => none) v d) : Ev K (tC v) es st st (.dat d) := .mk fun {G H ρ σ} S T {Q} q => q _ G H ρ Mv.refl S (Dq.up h fun _ _ z => nomatch z)
/-! an object of one's own: as data, into the store -/
theorem ev_share (h : Ev K ta es st st1 (.fr (.lst (ds.map It.dat)))) : Ev K ta es st st1 (.dat (.list ds)) := .mk fun {G H ρ σ} S T {Q} q => h.run S T fun v G' H' ρ' m S' ⟨p, e, h0, gp, np, hu, nw, vs, hp, hi⟩ => by
  subst e
  refine q _ (upd G' p (.lst vs)) H' ρ' ⟨m.ex.trans (Ex.new gp), m.pre, fun a o h1 h2 h3 => ?_, m.al, m.nw⟩ (S'.share gp hp np fun q z => nomatch z) ?_
  · obtain ⟨b1, b2, b3⟩ := m.fm a o h1 h2 h3
    refine ⟨b1, ?_, b3⟩
    rw [upd_ne fun z => by rw [z, h0] at h1; cases h1]
    exact b2
  · exact Dq.lst (.inl (.inl upd_same)) ((dqa_its hi).up (Ex.new gp))
theorem ev_store {o : Ob} (h : Ev K ta es st st1 (.fr o)) : Ev K ta es st (st1 ++ [o]) (.ob st1.length) := .mk fun {G H ρ σ} S T {Q} q => h.run S T fun v G' H' ρ' m S' ⟨p, e, h0, gp, np, hu, nw, ho⟩ => by
  subst e
  have pr : ρ' <+: ρ' ++ [p] := List.prefix_append _ _
  refine q _ G' H' (ρ' ++ [p]) ⟨m.ex, m.pre.trans pr, fun a o h1 h2 h3 => ?_, m.al, fun q h1 h2 => ?_⟩ (S'.store gp np hu nw ?_) ⟨p, rfl, ?_⟩
  · obtain ⟨b1, b2, b3⟩ := m.fm a o h1 h2 h3
    refine ⟨b1, b2, fun z => ?_⟩
    rcases List.mem_append.mp z with z | z
    · exact b3 z
    · rw [List.mem_singleton.mp z, h0] at h1
      cases h1
  · rcases List.mem_append.mp h1 with z | z
    · exact m.nw q z h2
    · rw [List.mem_singleton.mp z]
      exact h0
  · refine ho.up (Ex.refl _) pr rfl fun dx h3 h4 h5 => ⟨rfl, h4, fun z => ?_⟩
    rcases List.mem_append.mp z with z | z
    · exact h5 z
    · rw [List.mem_singleton.mp z] at h3
      exact nw p h3
  · rw [← S'.len, List.getElem?_append_right (Nat.le_refl _), Nat.sub_self]
    rfl
/-! arguments -/
theorem ea_nil : EvA K tNil es st st [] := .mk fun {G H ρ σ} S T {Q} q => q _ G H ρ Mv.refl S .nil
theorem ea_cons {tr : TA} (h : Ev K ta es st st1 (.it x)) (hr : EvA K tr es st1 st2 xs) : EvA K (tCons ta tr) es st st2 (x :: xs) := .mk fun {G H ρ σ} S T {Q} q =>
  h.run S T fun v G1 H1 ρ1 m1 S1 hv => hr.run S1 (T.mv m1) fun vs G2 H2 ρ2 m2 S2 hvs => q _ G2 H2 ρ2 (m1.trans m2) S2 (.cons (ItAt.up m2.ex m2.pre hv) hvs)
/-! operators -/
theorem ev_op2 {rd : R2} {z : PyData} (ha : Ev K ta es st st1 (.it x)) (hb : Ev K tb es st1 st2 (.it y)) (hr : ∀ u v G H ρ, Ex G H → ItAt K G ρ u x → ItAt K G ρ v y → ∀ Q : VK, (∀ w, (∀ G, Dq K G w z) → Q w H) → rd u v H Q) : Ev K (tOp rd ta tb) es st st2 (.dat z) := .mk fun {G H ρ σ} S T {Q} q =>
  ha.run S T fun u G1 H1 ρ1 m1 S1 hu => hb.run S1 (T.mv m1) fun v G2 H2 ρ2 m2 S2 hv => hr u v G2 H2 ρ2 S2.ex (ItAt.up m2.ex m2.pre hu) hv Q fun w hw => q w G2 H2 ρ2 (m1.trans m2) S2 (hw _)
theorem ev_I0 {g : Int → Int → V} {i j k : Int} (ha : Ev K ta es st st1 (.dat (.int i))) (hb : Ev K tb es st1 st2 (.dat (.int j))) (hg : g i j = .int k) : Ev K (tOp (rI0 g) ta tb) es st st2 (.dat (.int k)) :=
  ev_op2 ha hb fun x y G H ρ _ hx hy Q q => ⟨i, j, dq_int hx, dq_int hy, by rw [hg]; exact q _ fun _ => .int k⟩
theorem ev_I0b {g : Int → Int → V} {i j : Int} {b : Bool} (ha : Ev K ta es st st1 (.dat (.int i))) (hb : Ev K tb es st1 st2 (.dat (.int j))) (hg : g i j = .bl b) : Ev K (tOp (rI0 g) ta tb) es st st2 (.dat (.bool b)) :=
  ev_op2 ha hb fun x y G H ρ _ hx hy Q q => ⟨i, j, dq_int hx, dq_int hy, by rw [hg]; exact q _ fun _ => .bl b⟩
theorem ev_I {C : Int → Int → Prop} {g : Int → Int → V} {i j k : Int} (ha : Ev K ta es st st1 (.dat (.int i))) (hb : Ev K tb es st1 st2 (.dat (.int j))) (hg : g i j = .int k) (hc : C i j) : Ev K (tOp (rI C g) ta tb) es st st2 (.dat (.int k)) :=
  ev_op2 ha hb fun x y G H ρ _ hx hy Q q => ⟨i, j, dq_int hx, dq_int hy, hc, by rw [hg]; exact q _ fun _ => .int k⟩
theorem ev_neg {i k : Int} {g : Int → V} (ha : Ev K ta es st st1 (.dat (.int i))) (hg : g i = .int k) : Ev K (tUn (rU g) ta) es st st1 (.dat (.int k)) := .mk fun {G H ρ σ} S T {Q} q =>
  ha.run S T fun v G1 H1 ρ1 m1 S1 hv => ⟨i, dq_int hv, by rw [hg]; exact q _ G1 H1 ρ1 m1 S1 (Dq.int k)⟩
theorem dec_V {α : Type} [DecidableEq α] {f : α → V} (inj : ∀ a b, f a = f b → a = b) (a b : α) : decide (f a = f b) = decide (a = b) := by
  by_cases h : a = b
  · rw [h, decide_eq_true rfl, decide_eq_true rfl]
  · rw [decide_eq_false h, decide_eq_false fun z => h (inj _ _ z)]
theorem ev_eqI {i j : Int} (ha : Ev K ta es st st1 (.dat (.int i))) (hb : Ev K tb es st1 st2 (.dat (.int j))) : Ev K (tOp rEq ta tb) es st st2 (.dat (.bool (decide (i = j)))) :=
  ev_op2 ha hb fun x y G H ρ _ hx hy Q q => by
    rw [dq_int hx, dq_int hy]
    refine ⟨rfl, ?_⟩
    rw [dec_V (f := V.int) fun a b z => V.int.inj z]
    exact q _ fun _ => .bl _
theorem ev_eqS {i j : Str} (ha : Ev K ta es st st1 (.dat (.str i))) (hb : Ev K tb es st1 st2 (.dat (.str j))) : Ev K (tOp rEq ta tb) es st st2 (.dat (.bool (decide (i = j)))) :=
  ev_op2 ha hb fun x y G H ρ _ hx hy Q q => by
    rw [dq_str hx, dq_str hy]
    refine ⟨rfl, ?_⟩
    rw [dec_V (f := V.str) fun a b z => V.str.inj z]
    exact q _ fun _ => .bl _
theorem ev_eqB {i j : Bool} (ha : Ev K ta es st st1 (.dat (.bool i))) (hb : Ev K tb es st1 st2 (.dat (.bool j))) : Ev K (tOp rEq ta tb) es st st2 (.dat (.bool (decide (i = j)))) :=
  ev_op2 ha hb fun x y G H ρ _ hx hy Q q => by
    rw [dq_bl hx, dq_bl hy]
    refine ⟨rfl, ?_⟩
    rw [dec_V (f := V.bl) fun a b z => V.bl.inj z]
    exact q _ fun _ => .bl _
theorem ev_neI {i j : Int} (ha : Ev K ta es st st1 (.dat (.int i))) (hb : Ev K tb es st1 st2 (.dat (.int j))) : Ev K (tOp rNe ta tb) es st st2 (.dat (.bool (!decide (i = j)))) :=
  ev_op2 ha hb fun x y G H ρ _ hx hy Q q => by
    rw [dq_int hx, dq_int hy]
    refine ⟨rfl, ?_⟩
    rw [dec_V (f := V.int) fun a b z => V.int.inj z]
    exact q _ fun _ => .bl _
theorem ev_neS {i j : Str} (ha : Ev K ta es st st1 (.dat (.str i))) (hb : Ev K tb es st1 st2 (.dat (.str j))) : Ev K (tOp rNe ta tb) es st st2 (.dat (.bool (!decide (i = j)))) :=
  ev_op2 ha hb fun x y G H ρ _ hx hy Q q => by
    rw [dq_str hx, dq_str hy]
    refine ⟨rfl, ?_⟩
    rw [dec_V (f := V.str) fun a b z => V.str.inj z]
    exact q _ fun _ => .bl _
theorem ev_eqD (ha : Ev K ta es st st1 (.dat d)) (hb : Ev K tb es st1 st2 (.dat e)) (s1 : SeqAt.shaped d = true) (s2 : SeqAt.shaped e = true) : Ev K (tOp (rEqD K) ta tb) es st st2 (.dat (.bool (PyData.eqv d e))) :=
  ev_op2 ha hb fun x y G H ρ ex hx hy Q q => ⟨d, e, (Dq.dp hx).up ex, (Dq.dp hy).up ex, s1, s2, q _ fun _ => .bl _⟩
theorem ev_neD (ha : Ev K ta es st st1 (.dat d)) (hb : Ev K tb es st1 st2 (.dat e)) (s1 : SeqAt.shaped d = true) (s2 : SeqAt.shaped e = true) : Ev K (tOp (rNeD K) ta tb) es st st2 (.dat (.bool (!PyData.eqv d e))) :=
  ev_op2 ha hb fun x y G H ρ ex hx hy Q q => ⟨d, e, (Dq.dp hx).up ex, (Dq.dp hy).up ex, s1, s2, q _ fun _ => .bl _⟩
def isNon : It → Bool
  | .dat .none => true
  | _ => false
theorem itNon {G : Hp} {ρ : List Addr} {v : V} (h : ItAt K G ρ v x) : decide (v = V.non) = isNon x := by
  cases x with
  | dat d =>
    have h : Dq K G v d := h
    cases h <;> rfl
  | ob i =>
    obtain ⟨p, rfl, _⟩ := h
    rfl
theorem ev_isN (ha : Ev K ta es st st1 (.it x)) : Ev K (tOp (fun x y H Q => y = .non ∧ Q (.bl (decide (x = .non))) H) ta (tC .non)) es st st1 (.dat (.bool (isNon x))) :=
  ev_op2 ha ev_non fun u v G H ρ _ hx hy Q q => by
    refine ⟨dq_non hy, ?_⟩
    rw [itNon hx]
    exact q _ fun _ => .bl _
theorem ev_notN (ha : Ev K ta es st st1 (.it x)) : Ev K (tOp (fun x y H Q => y = .non ∧ Q (.bl (!decide (x = .non))) H) ta (tC .non)) es st st1 (.dat (.bool (!isNon x))) :=
  ev_op2 ha ev_non fun u v G H ρ _ hx hy Q q => by
    refine ⟨dq_non hy, ?_⟩
    rw [itNon hx]
    exact q _ fun _ => .bl _
/-! items -/
theorem ev_ixT {i : Int} (ha : Ev K ta es st st1 (.dat (.tuple ds))) (hb : Ev K tb es st1 st2 (.dat (.int i))) (hi : atI ds i = some d) : Ev K (tOp (rIxT K) ta tb) es st st2 (.dat d) := .mk fun {G H ρ σ} S T {Q} q =>
  ha.run S T fun u G1 H1 ρ1 m1 S1 hu => hb.run S1 (T.mv m1) fun v G2 H2 ρ2 m2 S2 hv => by
    obtain ⟨p, vs, rfl, hs, _, hd⟩ := dq_tup (Dq.up hu m2.ex)
    obtain ⟨w, hw, hx⟩ := its_ix (ρ := ρ2) (its_dqa hd) (at_map (f := It.dat) hi)
    exact ⟨p, vs, i, w, rfl, dq_int hv, Evl.ex_t S2.ex hs, hw, q w G2 H2 ρ2 (m1.trans m2) S2 hx⟩
theorem ev_ixL {i : Int} (ha : Ev K ta es st st1 (.dat (.list ds))) (hb : Ev K tb es st1 st2 (.dat (.int i))) (hi : atI ds i = some d) : Ev K (tOp (rIxL K) ta tb) es st st2 (.dat d) := .mk fun {G H ρ σ} S T {Q} q =>
  ha.run S T fun u G1 H1 ρ1 m1 S1 hu => hb.run S1 (T.mv m1) fun v G2 H2 ρ2 m2 S2 hv => by
    obtain ⟨p, vs, rfl, hs, hd⟩ := dq_lst (Dq.up hu m2.ex)
    obtain ⟨w, hw, hx⟩ := its_ix (ρ := ρ2) (its_dqa hd) (at_map (f := It.dat) hi)
    exact ⟨p, vs, i, w, rfl, dq_int hv, Evl.ex_l S2.ex hs, hw, q w G2 H2 ρ2 (m1.trans m2) S2 hx⟩
theorem ev_ixO {k : Nat} {i : Int} (ha : Ev K ta es st st1 (.ob k)) (hb : Ev K tb es st1 st2 (.dat (.int i))) (hk : st2[k]? = some (.lst xs)) (hi : atI xs i = some x) : Ev K (tOp (rIxL K) ta tb) es st st2 (.it x) := .mk fun {G H ρ σ} S T {Q} q =>
  ha.run S T fun u G1 H1 ρ1 m1 S1 hu => hb.run S1 (T.mv m1) fun v G2 H2 ρ2 m2 S2 hv => by
    obtain ⟨p, rfl, hr⟩ := hu
    obtain ⟨vs, hp, hx⟩ := S2.ob k _ p hk (pre_get m2.pre hr)
    obtain ⟨w, hw, hx⟩ := its_ix hx hi
    exact ⟨p, vs, i, w, rfl, dq_int hv, .inl (.inl hp), hw, q w G2 H2 ρ2 (m1.trans m2) S2 hx⟩
/-! displays -/
theorem h0_of {G H G' H' : Hp} {ρ ρ' : List Addr} (m : Mv G H ρ G' H' ρ') {p : Addr} (h : H' p = none) : H p = none := m.al p h
theorem ev_tup {t : TA} (h : EvA K t es st st1 (ds.map It.dat)) (hl : ds.length ≤ 100000) : Ev K (tTup t) es st st1 (.dat (.tuple ds)) := .mk fun {G H ρ σ} S T {Q} q =>
  h.run S T fun vs G1 H1 ρ1 m1 S1 hv => ⟨sz_of (by rw [its_len hv, List.length_map]; exact hl), fun p hp => by
    obtain ⟨S2, m2⟩ := S1.shared (.tup vs) hp
    exact q _ _ _ _ (m1.trans m2) S2 (Dq.tup (.inl (.inl upd_same)) (fun _ => upd_same) ((dqa_its hv).up m2.ex))⟩
theorem fr_lst {G H ρ} {Hs : Hp} {vs : List V} {p : Addr} (S : Sh K G H ρ st) (hp : H p = none) (h0 : Hs p = none) (hv : Its K G ρ vs xs) : RvAt K G (upd H p (.lst vs)) ρ Hs (.ref p) (.fr (.lst xs)) := by
  refine ⟨p, rfl, h0, fresh_back S.ex hp, fun z => ?_, ⟨_, upd_same⟩, fun q z => ?_, vs, upd_same, hv⟩
  · obtain ⟨_, u, hu⟩ := S.pr p z
    rw [hp] at hu
    cases hu
  · rw [upd_same] at z
    cases z
theorem ev_lst {t : TA} (h : EvA K t es st st1 xs) (hl : xs.length ≤ 100000) : Ev K (tLst t) es st st1 (.fr (.lst xs)) := .mk fun {G H ρ σ} S T {Q} q =>
  h.run S T fun vs G1 H1 ρ1 m1 S1 hv => ⟨sz_of (by rw [its_len hv]; exact hl), fun p hp => by
    obtain ⟨S2, m2⟩ := S1.priv (o := .lst vs) True.intro hp
    exact q _ _ _ _ (m1.trans m2) S2 (fr_lst S1 hp (h0_of m1 hp) hv)⟩
theorem ev_dnew : Ev K tDNewT es st st (.fr (.dic [])) := .mk fun {G H ρ σ} S T {Q} q p hp => by
  obtain ⟨S2, m2⟩ := S.priv (o := .dT []) True.intro hp
  refine q _ _ _ _ m2 S2 ⟨p, rfl, hp, fresh_back S.ex hp, fun z => ?_, ⟨_, upd_same⟩, fun q z => ?_, [], upd_same, .nil⟩
  · obtain ⟨_, u, hu⟩ := S.pr p z
    rw [hp] at hu
    cases hu
  · rw [upd_same] at z
    cases z
/-! slices -/
theorem eo_none : EvO K tNoPart es st st none := .mk fun {G H ρ σ} S T {Q} q => q G H ρ Mv.refl S
theorem eo_some {i : Int} (h : Ev K ta es st st1 (.dat (.int i))) : EvO K (tPart ta) es st st1 (some i) := .mk fun {G H ρ σ} S T {Q} q => h.run S T fun v G1 H1 ρ1 m1 S1 hv => ⟨i, dq_int hv, q G1 H1 ρ1 m1 S1⟩
theorem dqa_cut {G : Hp} {vs : List V} {lo hi : Option Int} (h : DqAll K G vs ds) : DqAll K G (cutV vs lo hi) (Pu.cutD ds lo hi) := by
  have l : vs.length = ds.length := by rw [its_len (ρ := []) (its_dqa h), List.length_map]
  have take : ∀ {ds : List PyData} {vs : List V} (n : Nat), DqAll K G vs ds → DqAll K G (vs.take n) (ds.take n) := by
    intro ds
    induction ds with
    | nil => intro vs n h; cases h; rw [List.take_nil, List.take_nil]; exact .nil
    | cons d ds ih =>
      intro vs n h
      cases h with
      | cons h1 h2 =>
        cases n with
        | zero => exact .nil
        | succ n => exact .cons h1 (ih n h2)
  have drop : ∀ {ds : List PyData} {vs : List V} (n : Nat), DqAll K G vs ds → DqAll K G (vs.drop n) (ds.drop n) := by
    intro ds
    induction ds with
    | nil => intro vs n h; cases h; rw [List.drop_nil, List.drop_nil]; exact .nil
    | cons d ds ih =>
      intro vs n h
      cases h with
      | cons h1 h2 =>
        cases n with
        | zero => exact .cons h1 h2
        | succ n => exact ih n h2
  unfold cutV Pu.cutD
  rw [l]
  exact take _ (drop _ h)
theorem ev_slT {tl th : TO} {lo hi : Option Int} (ha : Ev K ta es st st1 (.dat (.tuple ds))) (hl : EvO K tl es st1 st2 lo) (hh : EvO K th es st2 st3 hi) (hn : (HT.sIx ds.length 0 lo == 0 && HT.sIx ds.length ds.length hi == ds.length) = false) :
    Ev K (tSl (rSlT K) ta tl th) es st st3 (.dat (.tuple (Pu.cutD ds lo hi))) := .mk fun {G H ρ σ} S T {Q} q =>
  ha.run S T fun u G1 H1 ρ1 m1 S1 hu => hl.run S1 (T.mv m1) fun G2 H2 ρ2 m2 S2 => hh.run S2 ((T.mv m1).mv m2) fun G3 H3 ρ3 m3 S3 => by
    obtain ⟨p, vs, rfl, hs, _, hd⟩ := dq_tup (Dq.up hu (m2.ex.trans m3.ex))
    have l : vs.length = ds.length := by rw [its_len (ρ := []) (its_dqa hd), List.length_map]
    refine ⟨p, vs, rfl, Evl.ex_t S3.ex hs, fun z => ?_, fun r hr => ?_⟩
    · rw [l] at z
      rw [beq_iff_eq.mpr z.1, beq_iff_eq.mpr z.2] at hn
      cases hn
    · obtain ⟨S4, m4⟩ := S3.shared (.tup (cutV vs lo hi)) hr
      exact q _ _ _ _ (((m1.trans m2).trans m3).trans m4) S4 (Dq.tup (.inl (.inl upd_same)) (fun _ => upd_same) ((dqa_cut hd).up m4.ex))
theorem ev_slL {tl th : TO} {lo hi : Option Int} (ha : Ev K ta es st st1 (.dat (.list ds))) (hl : EvO K tl es st1 st2 lo) (hh : EvO K th es st2 st3 hi) :
    Ev K (tSl (rSlL K) ta tl th) es st st3 (.fr (.lst ((Pu.cutD ds lo hi).map It.dat))) := .mk fun {G H ρ σ} S T {Q} q =>
  ha.run S T fun u G1 H1 ρ1 m1 S1 hu => hl.run S1 (T.mv m1) fun G2 H2 ρ2 m2 S2 => hh.run S2 ((T.mv m1).mv m2) fun G3 H3 ρ3 m3 S3 => by
    obtain ⟨p, vs, rfl, hs, hd⟩ := dq_lst (Dq.up hu (m2.ex.trans m3.ex))
    refine ⟨p, vs, rfl, Evl.ex_l S3.ex hs, fun r hr => ?_⟩
    obtain ⟨S4, m4⟩ := S3.priv (o := .lst (cutV vs lo hi)) True.intro hr
    exact q _ _ _ _ (((m1.trans m2).trans m3).trans m4) S4 (fr_lst S3 hr (h0_of ((m1.trans m2).trans m3) hr) (its_dqa (dqa_cut hd)))
end
end Pv

/-! second make: built-ins, tests, calls -/
namespace Pv
open PySem PySem.Spec L2
open Evl (Ex sz_of sz_lt rLenS rMax2 rListS)
open Pu (rMin2)
open PyProof.Rows (envOfC)
section
variable (K : PySem.W.Frag)
/-- a list, whosever it is -/
structure EvL (te : TE) (es : Es) (st st' : List Ob) (xs : List It) : Prop where
  run : ∀ {G H : Hp} {ρ : List Addr} {σ : L2.St}, Sh K G H ρ st → Se K G ρ σ es → ∀ {Q : VK}, (∀ p vs G' H' ρ', Mv G H ρ G' H' ρ' → Sh K G' H' ρ' st' → SqL K H' p vs → Its K G' ρ' vs xs → Q (.ref p) H') → te σ H Q
end
section
variable {K : PySem.W.Frag} {es : Es} {st st1 st2 st3 : List Ob} {ta tb tc : TE} {t u : TT} {d e : PyData} {ds : List PyData} {x y : It} {xs ys : List It} {r : Rv}
theorem el_dat (h : Ev K ta es st st1 (.dat (.list ds))) : EvL K ta es st st1 (ds.map It.dat) := .mk fun {G H ρ σ} S T {Q} q => h.run S T fun v G1 H1 ρ1 m1 S1 hv => by
  obtain ⟨p, vs, rfl, hs, hd⟩ := dq_lst hv
  exact q p vs G1 H1 ρ1 m1 S1 (Evl.ex_l S1.ex hs) (its_dqa hd)
theorem el_ob {k : Nat} (h : Ev K ta es st st1 (.ob k)) (hk : st1[k]? = some (.lst xs)) : EvL K ta es st st1 xs := .mk fun {G H ρ σ} S T {Q} q => h.run S T fun v G1 H1 ρ1 m1 S1 hv => by
  obtain ⟨p, rfl, hr⟩ := hv
  obtain ⟨vs, hp, hx⟩ := S1.ob k _ p hk hr
  exact q p vs G1 H1 ρ1 m1 S1 (.inl (.inl hp)) hx
theorem el_fr (h : Ev K ta es st st1 (.fr (.lst xs))) : EvL K ta es st st1 xs := .mk fun {G H ρ σ} S T {Q} q => h.run S T fun v G1 H1 ρ1 m1 S1 ⟨p, e, h0, gp, np, hu, nw, vs, hp, hx⟩ => by
  subst e
  exact q p vs G1 H1 ρ1 m1 S1 (.inl (.inl hp)) hx
/-! built-ins -/
theorem ev_cb1 {rd : List V → Hp → VK → Prop} {z : PyData} (ha : Ev K ta es st st1 (.it x)) (hr : ∀ v G H ρ, Ex G H → ItAt K G ρ v x → ∀ Q : VK, (∀ w, (∀ G, Dq K G w z) → Q w H) → rd [v] H Q) : Ev K (tCB rd (tCons ta tNil)) es st st1 (.dat z) := .mk fun {G H ρ σ} S T {Q} q =>
  ha.run S T fun v G1 H1 ρ1 m1 S1 hv => hr v G1 H1 ρ1 S1.ex hv Q fun w hw => q w G1 H1 ρ1 m1 S1 (hw _)
theorem ev_cb2 {rd : List V → Hp → VK → Prop} {z : PyData} (ha : Ev K ta es st st1 (.it x)) (hb : Ev K tb es st1 st2 (.it y)) (hr : ∀ v w G H ρ, Ex G H → ItAt K G ρ v x → ItAt K G ρ w y → ∀ Q : VK, (∀ w, (∀ G, Dq K G w z) → Q w H) → rd [v, w] H Q) : Ev K (tCB rd (tCons ta (tCons tb tNil))) es st st2 (.dat z) := .mk fun {G H ρ σ} S T {Q} q =>
  ha.run S T fun v G1 H1 ρ1 m1 S1 hv => hb.run S1 (T.mv m1) fun w G2 H2 ρ2 m2 S2 hw => hr v w G2 H2 ρ2 S2.ex (ItAt.up m2.ex m2.pre hv) hw Q fun y hy => q y G2 H2 ρ2 (m1.trans m2) S2 (hy _)
theorem ev_len (h : EvL K ta es st st1 xs) : Ev K (tCB (rLenS K) (tCons ta tNil)) es st st1 (.dat (.int (xs.length : Int))) := .mk fun {G H ρ σ} S T {Q} q =>
  h.run S T fun p vs G1 H1 ρ1 m1 S1 hs hx => ⟨p, vs, rfl, .inl hs, q _ G1 H1 ρ1 m1 S1 (by rw [its_len hx]; exact Dq.int _)⟩
theorem ev_lenT (ha : Ev K ta es st st1 (.dat (.tuple ds))) : Ev K (tCB (rLenS K) (tCons ta tNil)) es st st1 (.dat (.int (ds.length : Int))) := ev_cb1 ha fun v G H ρ ex hv Q q => by
  obtain ⟨p, vs, rfl, hs, _, hd⟩ := dq_tup hv
  refine ⟨p, vs, rfl, .inr (Evl.ex_t ex hs), ?_⟩
  rw [its_len (ρ := ρ) (its_dqa hd), List.length_map]
  exact q _ fun _ => .int _
theorem ev_min2 {i j : Int} (ha : Ev K ta es st st1 (.dat (.int i))) (hb : Ev K tb es st1 st2 (.dat (.int j))) : Ev K (tCB rMin2 (tCons ta (tCons tb tNil))) es st st2 (.dat (.int (min i j))) := ev_cb2 ha hb fun x y G H ρ _ hx hy Q q => by
  refine ⟨i, j, by rw [dq_int hx, dq_int hy], ?_⟩
  rw [show (if j < i then j else i) = min i j by split <;> omega]
  exact q _ fun _ => .int _
theorem ev_max2 {i j : Int} (ha : Ev K ta es st st1 (.dat (.int i))) (hb : Ev K tb es st1 st2 (.dat (.int j))) : Ev K (tCB rMax2 (tCons ta (tCons tb tNil))) es st st2 (.dat (.int (max i j))) := ev_cb2 ha hb fun x y G H ρ _ hx hy Q q => by
  refine ⟨i, j, by rw [dq_int hx, dq_int hy], ?_⟩
  rw [show (if j > i then j else i) = max i j by split <;> omega]
  exact q _ fun _ => .int _
theorem its_ints {G : Hp} {ρ : List Addr} : ∀ {ns : List Int} {vs : List V}, Its K G ρ vs ((ns.map PyData.int).map It.dat) → vs = ns.map V.int
  | [], _, h => by cases h; rfl
  | n :: ns, _, h => by
    cases h with
    | cons a b =>
      rw [dq_int (show Dq K G _ (.int n) from a), its_ints b]
      rfl
theorem ev_sum {ns : List Int} (h : EvL K ta es st st1 ((ns.map PyData.int).map It.dat)) : Ev K (tCB (rSum K) (tCons ta tNil)) es st st1 (.dat (.int ns.sum)) := .mk fun {G H ρ σ} S T {Q} q =>
  h.run S T fun p vs G1 H1 ρ1 m1 S1 hs hx => by
    rw [its_ints hx] at hs
    exact ⟨p, ns, rfl, hs, q _ G1 H1 ρ1 m1 S1 (Dq.int _)⟩
theorem ev_minL {ns : List Int} {m : Int} (h : EvL K ta es st st1 ((ns.map PyData.int).map It.dat)) (hm : m ∈ ns) (hle : ∀ y ∈ ns, m ≤ y) : Ev K (tCB (rMin K) (tCons ta tNil)) es st st1 (.dat (.int m)) := .mk fun {G H ρ σ} S T {Q} q =>
  h.run S T fun p vs G1 H1 ρ1 m1 S1 hs hx => by
    rw [its_ints hx] at hs
    refine ⟨p, ns, rfl, hs, List.length_pos_of_mem hm, fun k hk hk' => ?_⟩
    have h1 := hk' m hm
    have h2 := hle k hk
    rw [show k = m by omega]
    exact q _ G1 H1 ρ1 m1 S1 (Dq.int _)
theorem ev_maxL {ns : List Int} {m : Int} (h : EvL K ta es st st1 ((ns.map PyData.int).map It.dat)) (hm : m ∈ ns) (hle : ∀ y ∈ ns, y ≤ m) : Ev K (tCB (rMax K) (tCons ta tNil)) es st st1 (.dat (.int m)) := .mk fun {G H ρ σ} S T {Q} q =>
  h.run S T fun p vs G1 H1 ρ1 m1 S1 hs hx => by
    rw [its_ints hx] at hs
    refine ⟨p, ns, rfl, hs, List.length_pos_of_mem hm, fun k hk hk' => ?_⟩
    have h1 := hk' m hm
    have h2 := hle k hk
    rw [show k = m by omega]
    exact q _ G1 H1 ρ1 m1 S1 (Dq.int _)
theorem ev_isi {n : String} {b : Bool} (ha : Ev K ta es st st1 (.dat d)) (hb : kitB (Pu.tyName d) n = some b) : Ev K (tCB (rIsi K) (tCons ta (tCons (tC (.ty n)) tNil))) es st st1 (.dat (.bool b)) := .mk fun {G H ρ σ} S T {Q} q =>
  ha.run S T fun v G1 H1 ρ1 m1 S1 hv => ⟨v, .ty n, _, _, b, rfl, .ty n, Pu.tyX_of ((Dq.dp hv).up S1.ex), kit_ty hb, q _ G1 H1 ρ1 m1 S1 (Dq.bl b)⟩
theorem ev_isiL {n : String} {b : Bool} (ha : EvL K ta es st st1 xs) (hb : kitB "list" n = some b) : Ev K (tCB (rIsi K) (tCons ta (tCons (tC (.ty n)) tNil))) es st st1 (.dat (.bool b)) := .mk fun {G H ρ σ} S T {Q} q =>
  ha.run S T fun p vs G1 H1 ρ1 m1 S1 hs hx => ⟨.ref p, .ty n, _, _, b, rfl, .ty n, (by
    rcases hs with (hs | ⟨o, hs⟩) | ⟨o, its, n, h1, h2, _⟩
    · exact .base (.lst hs)
    · exact .base (.frz hs)
    · exact .kList h1 h2), kit_ty hb, q _ G1 H1 ρ1 m1 S1 (Dq.bl b)⟩
theorem ev_intB {b : Bool} (ha : Ev K ta es st st1 (.dat (.bool b))) : Ev K (tCB Pu.rInt1 (tCons ta tNil)) es st st1 (.dat (.int (if b then 1 else 0))) := ev_cb1 ha fun x G H ρ _ hx Q q => .inr ⟨b, by rw [dq_bl hx], q _ fun _ => .int _⟩
theorem ev_intI {i : Int} (ha : Ev K ta es st st1 (.dat (.int i))) : Ev K (tCB Pu.rInt1 (tCons ta tNil)) es st st1 (.dat (.int i)) := ev_cb1 ha fun x G H ρ _ hx Q q => .inl ⟨i, by rw [dq_int hx], q _ fun _ => .int _⟩
theorem ev_listL (h : EvL K ta es st st1 xs) : Ev K (tCB (rListS K) (tCons ta tNil)) es st st1 (.fr (.lst xs)) := .mk fun {G H ρ σ} S T {Q} q =>
  h.run S T fun p vs G1 H1 ρ1 m1 S1 hs hx => ⟨p, vs, rfl, .inl hs, fun r hr => by
    obtain ⟨S2, m2⟩ := S1.priv (o := .lst vs) True.intro hr
    exact q _ _ _ _ (m1.trans m2) S2 (fr_lst S1 hr (h0_of m1 hr) hx)⟩
theorem ev_listT (h : Ev K ta es st st1 (.dat (.tuple ds))) : Ev K (tCB (rListS K) (tCons ta tNil)) es st st1 (.fr (.lst (ds.map It.dat))) := .mk fun {G H ρ σ} S T {Q} q =>
  h.run S T fun v G1 H1 ρ1 m1 S1 hv => by
    obtain ⟨p, vs, rfl, hs, _, hd⟩ := dq_tup hv
    refine ⟨p, vs, rfl, .inr (Evl.ex_t S1.ex hs), fun r hr => ?_⟩
    obtain ⟨S2, m2⟩ := S1.priv (o := .lst vs) True.intro hr
    exact q _ _ _ _ (m1.trans m2) S2 (fr_lst S1 hr (h0_of m1 hr) (its_dqa hd))
theorem ev_tupL (h : EvL K ta es st st1 (ds.map It.dat)) : Ev K (tCB (Pu.rTupS K) (tCons ta tNil)) es st st1 (.dat (.tuple ds)) := .mk fun {G H ρ σ} S T {Q} q =>
  h.run S T fun p vs G1 H1 ρ1 m1 S1 hs hx => ⟨p, vs, rfl, .inl ⟨hs, fun r hr => by
    obtain ⟨S2, m2⟩ := S1.shared (.tup vs) hr
    exact q _ _ _ _ (m1.trans m2) S2 (Dq.tup (.inl (.inl upd_same)) (fun _ => upd_same) ((dqa_its hx).up m2.ex))⟩⟩
theorem ev_tupT (h : Ev K ta es st st1 (.dat (.tuple ds))) : Ev K (tCB (Pu.rTupS K) (tCons ta tNil)) es st st1 (.dat (.tuple ds)) := .mk fun {G H ρ σ} S T {Q} q =>
  h.run S T fun v G1 H1 ρ1 m1 S1 hv => by
    obtain ⟨p, vs, rfl, hs, _, hd⟩ := dq_tup hv
    exact ⟨p, vs, rfl, .inr ⟨Evl.ex_t S1.ex hs, q _ G1 H1 ρ1 m1 S1 hv⟩⟩
theorem dqa_app {G : Hp} {ds es' : List PyData} : ∀ {xs ys : List V}, DqAll K G xs ds → DqAll K G ys es' → DqAll K G (xs ++ ys) (ds ++ es') := by
  induction ds with
  | nil => intro xs ys h h'; cases h; exact h'
  | cons d ds ih =>
    intro xs ys h h'
    cases h with
    | cons a b => exact .cons a (ih b h')
/-- list + list -/
theorem ev_catL (ha : Ev K ta es st st1 (.dat (.list ds))) {es' : List PyData} (hb : Ev K tb es st1 st2 (.dat (.list es'))) (hz : ds.length + es'.length ≤ 100000) : Ev K (tOp (Pu.rCatA K) ta tb) es st st2 (.fr (.lst ((ds ++ es').map It.dat))) := .mk fun {G H ρ σ} S T {Q} q =>
  ha.run S T fun u G1 H1 ρ1 m1 S1 hu => hb.run S1 (T.mv m1) fun v G2 H2 ρ2 m2 S2 hv => by
    obtain ⟨p, xs, rfl, hs, hd⟩ := dq_lst (Dq.up hu m2.ex)
    obtain ⟨p', ys, rfl, hs', hd'⟩ := dq_lst hv
    have l1 := its_len (ρ := ρ2) (its_dqa hd)
    have l2 := its_len (ρ := ρ2) (its_dqa hd')
    rw [List.length_map] at l1 l2
    refine ⟨p, p', xs, ys, rfl, rfl, Evl.ex_l S2.ex hs, Evl.ex_l S2.ex hs', sz_of (by rw [l1, l2]; exact hz), fun r hr => ?_⟩
    obtain ⟨S3, m3⟩ := S2.priv (o := .lst (xs ++ ys)) True.intro hr
    exact q _ _ _ _ ((m1.trans m2).trans m3) S3 (fr_lst S2 hr (h0_of (m1.trans m2) hr) (its_dqa (dqa_app hd hd')))
theorem inV_its {G : Hp} {ρ : List Addr} : ∀ {ss : List Str} {vs : List V}, Its K G ρ vs ((ss.map PyData.str).map It.dat) → vs = ss.map V.str
  | [], _, h => by cases h; rfl
  | n :: ns, _, h => by
    cases h with
    | cons a b =>
      rw [dq_str (show Dq K G _ (.str n) from a), inV_its b]
      rfl
theorem ev_inS {z : Str} {ss : List Str} (ha : Ev K ta es st st1 (.dat (.str z))) (hb : EvL K tb es st1 st2 ((ss.map PyData.str).map It.dat)) : Ev K (tOp (rIn K false) ta tb) es st st2 (.dat (.bool (ss.any fun y => y == z))) := .mk fun {G H ρ σ} S T {Q} q =>
  ha.run S T fun u G1 H1 ρ1 m1 S1 hu => hb.run S1 (T.mv m1) fun p vs G2 H2 ρ2 m2 S2 hs hx => by
    rw [dq_str hu]
    rw [inV_its hx] at hs
    refine ⟨p, _, rfl, .inl hs, rfl, Pu.flat_strs, ?_⟩
    show Q (.bl (inV (.str z) (ss.map V.str))) H2
    rw [Pu.inV_strs]
    exact q _ G2 H2 ρ2 (m1.trans m2) S2 (Dq.bl _)
/-! tests -/
theorem eb_yes : EvB K tYes es st st true := .mk fun {G H ρ σ} S T {Q} q => q G H ρ Mv.refl S
theorem eb_test {b : Bool} (h : Ev K ta es st st1 (.dat (.bool b))) : EvB K (tTest ta) es st st1 b := .mk fun {G H ρ σ} S T {Q} q => h.run S T fun v G1 H1 ρ1 m1 S1 hv => ⟨b, dq_bl hv, q G1 H1 ρ1 m1 S1⟩
theorem eb_B {b : Bool} (h : Ev K ta es st st1 (.dat (.bool b))) : EvB K (tB ta) es st st1 b := .mk fun {G H ρ σ} S T {Q} q => h.run S T fun v G1 H1 ρ1 m1 S1 hv => ⟨b, dq_bl hv, q G1 H1 ρ1 m1 S1⟩
theorem eb_not {b : Bool} (h : EvB K t es st st1 b) : EvB K (tNot t) es st st1 (!b) := .mk fun {G H ρ σ} S T {Q} q => h.run S T fun G1 H1 ρ1 m1 S1 => q G1 H1 ρ1 m1 S1
theorem eb_no (h : EvB K t es st st1 true) : EvB K (tNot t) es st st1 false := eb_not h
theorem eb_yesN (h : EvB K t es st st1 false) : EvB K (tNot t) es st st1 true := eb_not h
theorem eb_andF (h1 : EvB K t es st st1 false) : EvB K (tAnd t u) es st st1 false := .mk fun {G H ρ σ} S T {Q} q => h1.run S T fun G1 H1 ρ1 m1 S1 => iteF (q G1 H1 ρ1 m1 S1)
theorem eb_andT {b : Bool} (h1 : EvB K t es st st1 true) (h2 : EvB K u es st1 st2 b) : EvB K (tAnd t u) es st st2 b := .mk fun {G H ρ σ} S T {Q} q => h1.run S T fun G1 H1 ρ1 m1 S1 => iteT (h2.run S1 (T.mv m1) fun G2 H2 ρ2 m2 S2 => q G2 H2 ρ2 (m1.trans m2) S2)
theorem eb_orT (h1 : EvB K t es st st1 true) : EvB K (tOr t u) es st st1 true := .mk fun {G H ρ σ} S T {Q} q => h1.run S T fun G1 H1 ρ1 m1 S1 => iteT (q G1 H1 ρ1 m1 S1)
theorem eb_orF {b : Bool} (h1 : EvB K t es st st1 false) (h2 : EvB K u es st1 st2 b) : EvB K (tOr t u) es st st2 b := .mk fun {G H ρ σ} S T {Q} q => h1.run S T fun G1 H1 ρ1 m1 S1 => iteF (h2.run S1 (T.mv m1) fun G2 H2 ρ2 m2 S2 => q G2 H2 ρ2 (m1.trans m2) S2)
theorem eb_and {a b : Bool} (h1 : EvB K t es st st a) (h2 : a = true → EvB K u es st st b) : EvB K (tAnd t u) es st st (a && b) := by
  cases a with
  | true => exact eb_andT h1 (h2 rfl)
  | false => exact eb_andF h1
theorem eb_or {a b : Bool} (h1 : EvB K t es st st a) (h2 : a = false → EvB K u es st st b) : EvB K (tOr t u) es st st (a || b) := by
  cases a with
  | true => exact eb_orT h1
  | false => exact eb_orF h1 (h2 rfl)
theorem ev_andV {a b : Bool} (h1 : Ev K ta es st st (.dat (.bool a))) (h2 : a = true → Ev K tb es st st (.dat (.bool b))) : Ev K (tAndV ta tb) es st st (.dat (.bool (a && b))) := .mk fun {G H ρ σ} S T {Q} q => h1.run S T fun v G1 H1 ρ1 m1 S1 hv => ⟨a, dq_bl hv, by
  cases a with
  | true => exact iteT ((h2 rfl).run S1 (T.mv m1) fun y G2 H2 ρ2 m2 S2 hy => q y G2 H2 ρ2 (m1.trans m2) S2 hy)
  | false => exact iteF (q _ G1 H1 ρ1 m1 S1 (Dq.bl _))⟩
theorem ev_orV {a b : Bool} (h1 : Ev K ta es st st (.dat (.bool a))) (h2 : a = false → Ev K tb es st st (.dat (.bool b))) : Ev K (tOrV ta tb) es st st (.dat (.bool (a || b))) := .mk fun {G H ρ σ} S T {Q} q => h1.run S T fun v G1 H1 ρ1 m1 S1 hv => ⟨a, dq_bl hv, by
  cases a with
  | true => exact iteT (q _ G1 H1 ρ1 m1 S1 (Dq.bl _))
  | false => exact iteF ((h2 rfl).run S1 (T.mv m1) fun y G2 H2 ρ2 m2 S2 hy => q y G2 H2 ρ2 (m1.trans m2) S2 hy)⟩
theorem ev_notV {a : Bool} (h1 : Ev K ta es st st1 (.dat (.bool a))) : Ev K (tNotV ta) es st st1 (.dat (.bool (!a))) := .mk fun {G H ρ σ} S T {Q} q => h1.run S T fun v G1 H1 ρ1 m1 S1 hv => ⟨a, dq_bl hv, q _ G1 H1 ρ1 m1 S1 (Dq.bl _)⟩
theorem eb_truL (h : EvL K ta es st st1 xs) : EvB K (Pu.tTru K ta) es st st1 (!xs.isEmpty) := .mk fun {G H ρ σ} S T {Q} q => h.run S T fun p vs G1 H1 ρ1 m1 S1 hs hx => by
  refine ⟨_, .inl ⟨vs, hs, rfl⟩, ?_⟩
  have e : vs.isEmpty = xs.isEmpty := by
    cases hx <;> rfl
  rw [e]
  exact q G1 H1 ρ1 m1 S1
theorem eb_truB {b : Bool} (h : Ev K ta es st st1 (.dat (.bool b))) : EvB K (Pu.tTru K ta) es st st1 b := .mk fun {G H ρ σ} S T {Q} q => h.run S T fun v G1 H1 ρ1 m1 S1 hv => by
  rw [dq_bl hv]
  exact ⟨b, rfl, q G1 H1 ρ1 m1 S1⟩
theorem eb_truI {i : Int} (h : Ev K ta es st st1 (.dat (.int i))) : EvB K (Pu.tTru K ta) es st st1 (i != 0) := .mk fun {G H ρ σ} S T {Q} q => h.run S T fun v G1 H1 ρ1 m1 S1 hv => by
  rw [dq_int hv]
  exact ⟨_, rfl, q G1 H1 ρ1 m1 S1⟩
theorem ev_if {b : Bool} (h : EvB K t es st st1 b) (h1 : b = true → Ev K ta es st1 st2 r) (h2 : b = false → Ev K tb es st1 st2 r) (hr : ∃ x, r = .it x) : Ev K (tIf t ta tb) es st st2 r := .mk fun {G H ρ σ} S T {Q} q => h.run S T fun G1 H1 ρ1 m1 S1 => by
  obtain ⟨x, rfl⟩ := hr
  cases b with
  | true => exact iteT ((h1 rfl).run S1 (T.mv m1) fun y G2 H2 ρ2 m2 S2 hy => q y G2 H2 ρ2 (m1.trans m2) S2 hy)
  | false => exact iteF ((h2 rfl).run S1 (T.mv m1) fun y G2 H2 ρ2 m2 S2 hy => q y G2 H2 ρ2 (m1.trans m2) S2 hy)
/-! attributes -/
theorem look_at {G : Hp} {ρ : List Addr} {fv : List (Str × V)} {fs : List (Str × It)} (h : Paired (fun (a : Str × V) (b : Str × It) => a.1 = b.1 ∧ ItAt K G ρ a.2 b.2) fv fs) {f : Str} {x : It} (hx : fs.lookup f = some x) : ∃ v, fv.lookup f = some v ∧ ItAt K G ρ v x := by
  induction h with
  | nil => cases hx
  | @cons a b l m hab t ih =>
    obtain ⟨a1, a2⟩ := a
    obtain ⟨b1, b2⟩ := b
    obtain ⟨e1, e2⟩ := hab
    have e1 : a1 = b1 := e1
    subst e1
    rw [List.lookup_cons] at hx ⊢
    cases z : f == a1 with
    | true =>
      rw [z] at hx
      cases hx
      exact ⟨a2, rfl, e2⟩
    | false =>
      rw [z] at hx
      exact ih hx
theorem ev_fld {k : Nat} {C : Addr} {fs : List (Str × It)} {f : Str} (h : Ev K ta es st st1 (.ob k)) (hk : st1[k]? = some (.ins C fs)) (hf : fs.lookup f = some x) (c : Cls K C) (n : NoAttr K C f) : Ev K (tFld K ta f) es st st1 (.it x) := .mk fun {G H ρ σ} S T {Q} q =>
  h.run S T fun v G1 H1 ρ1 m1 S1 hv => by
    obtain ⟨p, rfl, hr⟩ := hv
    obtain ⟨dx, fv, hp, _, _, _, hx⟩ := S1.ob k _ p hk hr
    obtain ⟨w, hw, hx⟩ := look_at hx hf
    exact ⟨p, C, dx, fv, w, rfl, hp, c, n, hw, q w G1 H1 ρ1 m1 S1 hx⟩
/-! dicts from places -/
theorem val_at {G : Hp} {ρ : List Addr} {kvs : List (List Key × V)} {m : List (P2 × It)} (h : Paired (fun (a : List Key × V) (b : P2 × It) => a.1 = pk b.1 ∧ ItAt K G ρ a.2 b.2) kvs m) (p : P2) : (m.lookup p = none ∧ valV kvs (pk p) = none) ∨ ∃ x v, m.lookup p = some x ∧ valV kvs (pk p) = some v ∧ ItAt K G ρ v x := by
  induction h with
  | nil => exact .inl ⟨rfl, rfl⟩
  | @cons a b l m hab t ih =>
    obtain ⟨b1, b2⟩ := b
    rw [List.lookup_cons]
    by_cases z : p = b1
    · subst z
      rw [beq_self_eq_true]
      exact .inr ⟨b2, a.2, rfl, valV_pos hab.1, hab.2⟩
    · rw [beq_eq_false_iff_ne.mpr z, valV_neg fun q => z (pk_inj (hab.1.symm.trans q).symm)]
      exact ih
theorem key_at {G : Hp} {v : V} {p : P2} (h : Dq K G v (.tuple [.int p.1, .int p.2])) : ∃ b, v = .ref b ∧ G b = some (.tup ((pk p).map kV)) := by
  obtain ⟨b, vs, rfl, hs, ht, hd⟩ := dq_tup h
  have ht := ht rfl
  cases hd with
  | cons a b =>
    cases b with
    | cons b c =>
      cases c
      rw [dq_int a, dq_int b] at ht
      exact ⟨_, rfl, ht⟩
theorem ev_dget {k : Nat} {p : P2} {m : List (P2 × It)} (ha : Ev K ta es st st1 (.ob k)) (hb : Ev K tb es st1 st2 (.dat (.tuple [.int p.1, .int p.2]))) (hk : st2[k]? = some (.dic m)) (hm : m.lookup p = some x) : Ev K (tDGet ta tb) es st st2 (.it x) := .mk fun {G H ρ σ} S T {Q} q =>
  ha.run S T fun u G1 H1 ρ1 m1 S1 hu => hb.run S1 (T.mv m1) fun v G2 H2 ρ2 m2 S2 hv => by
    obtain ⟨a, rfl, hr⟩ := hu
    obtain ⟨kvs, hp, hx⟩ := S2.ob k _ a hk (pre_get m2.pre hr)
    obtain ⟨b, rfl, hb⟩ := key_at hv
    rcases val_at hx p with ⟨z, _⟩ | ⟨y, w, h1, h2, h3⟩
    · rw [z] at hm
      cases hm
    · rw [h1] at hm
      cases hm
      refine ⟨a, w, rfl, ?_, q w G2 H2 ρ2 (m1.trans m2) S2 h3⟩
      rw [← h2]
      exact DGet.t hp (S2.ex _ _ hb)
end
end Pv

/-! second make: promises, statements, loops, defs -/
namespace Pv
open PySem PySem.Spec L2
open Evl (Ex sz_of sz_lt)
open PyProof.Rows (envOfC)
/-- a dict with another value at a place -/
def putM (m : List (P2 × It)) (p : P2) (x : It) : List (P2 × It) := if (m.any fun b => b.1 == p) = true then m.map fun b => if b.1 = p then (b.1, x) else b else m ++ [(p, x)]
/-- how a def ends -/
inductive Out where
  | ret (r : Rv) (st : List Ob)
  | exc (C : Addr) (st : List Ob)
def OutOk (K : PySem.W.Frag) (G H : Hp) (ρ : List Addr) (Q : VK) (E : XK) : Out → Prop
  | .ret r st' => ∀ v G' H' ρ', Mv G H ρ G' H' ρ' → Sh K G' H' ρ' st' → RvAt K G' H' ρ' H v r → Q v H'
  | .exc C st' => ∀ G' H' ρ', Mv G H ρ G' H' ρ' → Sh K G' H' ρ' st' → E (.ref C) none H'
/-- a promise: the whole store of the caller goes in and comes out -/
def spV {α : Type} (K : PySem.W.Frag) (args : α → List It) (pre : α → Prop) (stf : α → List Ob) (out : α → Out) : Sp := fun vs H Q E =>
  ∃ (a : α) (G : Hp) (ρ : List Addr), pre a ∧ Sh K G H ρ (stf a) ∧ Its K G ρ vs (args a) ∧ OutOk K G H ρ Q E (out a)
section
variable {K : PySem.W.Frag} {es : Es} {st st1 st2 st3 : List Ob} {ta tb te : TE} {tc : TT} {t u : TS} {d e : PyData} {ds : List PyData} {x y : It} {xs ys : List It} {r : Rv} {W : WE} {E : XK} {α : Type} {args : α → List It} {pre : α → Prop} {stf : α → List Ob} {out : α → Out}
theorem RvAt.back {G H G' H' H0 : Hp} {ρ ρ' ρ0 : List Addr} {G0 : Hp} {v : V} (m : Mv G0 H0 ρ0 G H ρ) : ∀ {r : Rv}, RvAt K G' H' ρ' H v r → RvAt K G' H' ρ' H0 v r
  | .it _, h => h
  | .fr _, ⟨p, a, b, c⟩ => ⟨p, a, m.al p b, c⟩
theorem ev_call {ts : TA} (a : α) (h : EvA K ts es st (stf a) (args a)) (hp : pre a) (ho : out a = .ret r st2) : Ev K (tCall (spV K args pre stf out) [] E ts) es st st2 r := .mk fun {G H ρ σ} S T {Q} q =>
  h.run S T fun vs G1 H1 ρ1 m1 S1 hv => ⟨a, G1, ρ1, hp, S1, by rw [List.append_nil]; exact hv, by
    rw [ho]
    exact fun v G2 H2 ρ2 m2 S2 hr => q v G2 H2 ρ2 (m1.trans m2) S2 (hr.back m1)⟩
theorem ex_call {ts : TA} {C : Addr} (a : α) (h : EvA K ts es st (stf a) (args a)) (hp : pre a) (ho : out a = .exc C st2) : ExC K (cW E) (tCall (spV K args pre stf out) [] E ts) es st C st2 := .mk fun {G H ρ σ} S T q {Q} =>
  h.run S T fun vs G1 H1 ρ1 m1 S1 hv => ⟨a, G1, ρ1, hp, S1, by rw [List.append_nil]; exact hv, by
    rw [ho]
    exact fun G2 H2 ρ2 m2 S2 => q G2 H2 ρ2 (m1.trans m2) S2⟩
theorem look_none {G : Hp} {ρ : List Addr} {fv : List (Str × V)} {fs : List (Str × It)} (h : Paired (fun (a : Str × V) (b : Str × It) => a.1 = b.1 ∧ ItAt K G ρ a.2 b.2) fv fs) {f : Str} (hx : fs.lookup f = none) : fv.lookup f = none := by
  induction h with
  | nil => rfl
  | @cons a b l m hab t ih =>
    obtain ⟨a1, a2⟩ := a
    obtain ⟨b1, b2⟩ := b
    obtain ⟨e1, e2⟩ := hab
    have e1 : a1 = b1 := e1
    subst e1
    rw [List.lookup_cons] at hx ⊢
    cases z : f == a1 with
    | true =>
      rw [z] at hx
      cases hx
    | false =>
      rw [z] at hx
      exact ih hx
theorem ev_meth {ts : TA} {C : Addr} {m : Str} {k : Nat} {fs : List (Str × It)} (a : α) (h0 : Ev K ta es st st1 (.ob k)) (hk : st1[k]? = some (.ins C fs)) (hf : fs.lookup m = none) (h : EvA K ts es st1 (stf a) xs) (hx : args a = .ob k :: xs) (hp : pre a) (ho : out a = .ret r st2) : Ev K (tMeth C m (spV K args pre stf out) [] E ta ts) es st st2 r := .mk fun {G H ρ σ} S T {Q} q =>
  h0.run S T fun v G0 H0 ρ0 m0 S0 hv => by
    obtain ⟨p, rfl, hr⟩ := hv
    obtain ⟨dx, fv, hpp, _, _, _, hl⟩ := S0.ob k _ p hk hr
    refine ⟨p, dx, fv, rfl, hpp, look_none hl hf, h.run S0 (T.mv m0) fun vs G1 H1 ρ1 m1 S1 hv => ⟨a, G1, ρ1, hp, S1, ?_, ?_⟩⟩
    · rw [List.append_nil, hx]
      exact .cons ⟨p, rfl, pre_get m1.pre hr⟩ hv
    · rw [ho]
      exact fun v G2 H2 ρ2 m2 S2 hr => q v G2 H2 ρ2 ((m0.trans m1).trans m2) S2 (hr.back (m0.trans m1))
theorem ex_meth {ts : TA} {C C' : Addr} {m : Str} {k : Nat} {fs : List (Str × It)} (a : α) (h0 : Ev K ta es st st1 (.ob k)) (hk : st1[k]? = some (.ins C fs)) (hf : fs.lookup m = none) (h : EvA K ts es st1 (stf a) xs) (hx : args a = .ob k :: xs) (hp : pre a) (ho : out a = .exc C' st2) : ExC K (cW E) (tMeth C m (spV K args pre stf out) [] E ta ts) es st C' st2 := .mk fun {G H ρ σ} S T q {Q} =>
  h0.run S T fun v G0 H0 ρ0 m0 S0 hv => by
    obtain ⟨p, rfl, hr⟩ := hv
    obtain ⟨dx, fv, hpp, _, _, _, hl⟩ := S0.ob k _ p hk hr
    refine ⟨p, dx, fv, rfl, hpp, look_none hl hf, h.run S0 (T.mv m0) fun vs G1 H1 ρ1 m1 S1 hv => ⟨a, G1, ρ1, hp, S1, ?_, ?_⟩⟩
    · rw [List.append_nil, hx]
      exact .cons ⟨p, rfl, pre_get m1.pre hr⟩ hv
    · rw [ho]
      exact fun G2 H2 ρ2 m2 S2 => q G2 H2 ρ2 ((m0.trans m1).trans m2) S2
/-! ### statements -/
structure Post where
  nx : Es → List Ob → Prop := fun _ _ => False
  rt : Rv → List Ob → Prop := fun _ _ => False
  bk : Es → List Ob → Prop := fun _ _ => False
  ct : Es → List Ob → Prop := fun _ _ => False
  ex : Addr → Es → List Ob → Prop := fun _ _ _ => False
structure Dk (K : PySem.W.Frag) (W : WE) (G H : Hp) (ρ : List Addr) (P : Post) (D : Ends) : Prop where
  nx : ∀ G' H' ρ' σ' es' st', P.nx es' st' → Mv G H ρ G' H' ρ' → Sh K G' H' ρ' st' → Se K G' ρ' σ' es' → D.nx σ' H'
  bk : ∀ G' H' ρ' σ' es' st', P.bk es' st' → Mv G H ρ G' H' ρ' → Sh K G' H' ρ' st' → Se K G' ρ' σ' es' → D.bk σ' H'
  ct : ∀ G' H' ρ' σ' es' st', P.ct es' st' → Mv G H ρ G' H' ρ' → Sh K G' H' ρ' st' → Se K G' ρ' σ' es' → D.ct σ' H'
  rt : ∀ v G' H' ρ' r st', P.rt r st' → Mv G H ρ G' H' ρ' → Sh K G' H' ρ' st' → RvAt K G' H' ρ' H v r → D.rt v H'
  ex : ∀ G' H' ρ' σ' es' C st', P.ex C es' st' → Mv G H ρ G' H' ρ' → Sh K G' H' ρ' st' → Se K G' ρ' σ' es' → W (.ref C) none σ' H'
structure Ws (K : PySem.W.Frag) (W : WE) (t : TS) (es : Es) (st : List Ob) (P : Post) : Prop where
  run : ∀ {G H : Hp} {ρ : List Addr} {σ : L2.St} {D : Ends}, Sh K G H ρ st → Se K G ρ σ es → Dk K W G H ρ P D → t D σ H
variable {P : Post}
theorem Dk.mono {G H G' H' : Hp} {ρ ρ' : List Addr} {D : Ends} (k : Dk K W G H ρ P D) (m : Mv G H ρ G' H' ρ') : Dk K W G' H' ρ' P D where
  nx := fun G2 H2 ρ2 σ2 es2 s2 h m2 S T => k.nx G2 H2 ρ2 σ2 es2 s2 h (m.trans m2) S T
  bk := fun G2 H2 ρ2 σ2 es2 s2 h m2 S T => k.bk G2 H2 ρ2 σ2 es2 s2 h (m.trans m2) S T
  ct := fun G2 H2 ρ2 σ2 es2 s2 h m2 S T => k.ct G2 H2 ρ2 σ2 es2 s2 h (m.trans m2) S T
  rt := fun v G2 H2 ρ2 r s2 h m2 S o => k.rt v G2 H2 ρ2 r s2 h (m.trans m2) S (o.back m)
  ex := fun G2 H2 ρ2 σ2 es2 C s2 h m2 S T => k.ex G2 H2 ρ2 σ2 es2 C s2 h (m.trans m2) S T
theorem w_seq (h : Ws K W t es st { P with nx := fun e s => Ws K W u e s P }) : Ws K W (tSeq t u) es st P := .mk fun {G H ρ σ D} S T k =>
  h.run (D := { D with nx := u D }) S T ⟨fun G' H' ρ' σ' es' s' hu m S' T' => hu.run S' T' (k.mono m), k.bk, k.ct, k.rt, k.ex⟩
theorem Ws.post {N M : Es → List Ob → Prop} (h : Ws K W t es st { P with nx := N }) (h2 : ∀ e s, N e s → M e s) : Ws K W t es st { P with nx := M } := .mk fun {G H ρ σ D} S T k =>
  h.run S T ⟨fun G' H' ρ' σ' es' s' hn m S' T' => k.nx _ _ _ _ _ _ (h2 _ _ hn) m S' T', k.bk, k.ct, k.rt, k.ex⟩
theorem w_seqI (N : Es → List Ob → Prop) (h : Ws K W t es st { P with nx := N }) (h2 : ∀ e s, N e s → Ws K W u e s P) : Ws K W (tSeq t u) es st P := w_seq (h.post h2)
theorem w_next (h : P.nx es st) : Ws K W tNext es st P := .mk fun {G H ρ σ D} S T k => k.nx G H ρ σ es st h Mv.refl S T
theorem w_break (h : P.bk es st) : Ws K W tBreak es st P := .mk fun {G H ρ σ D} S T k => k.bk G H ρ σ es st h Mv.refl S T
theorem w_cont (h : P.ct es st) : Ws K W tCont es st P := .mk fun {G H ρ σ D} S T k => k.ct G H ρ σ es st h Mv.refl S T
theorem w_asg {i : Nat} (h : Ev K te es st st1 (.it x)) (hn : P.nx (es.set i (.it x)) st1) : Ws K W (tAsg te (gName i)) es st P := .mk fun {G H ρ σ D} S T k =>
  h.run S T fun v G1 H1 ρ1 m1 S1 hv => k.nx _ _ _ _ _ _ hn m1 S1 ((T.mv m1).put i ⟨v, rfl, hv⟩)
theorem w_asgR {i : Nat} {tr : TA} {lo hi : Int} (h : EvA K tr es st st1 [.dat (.int lo), .dat (.int hi)]) (hn : P.nx (es.set i (.rng lo hi)) st1) :
    Ws K W (tAsg (tCB (fun vs H Q => ∃ i j, vs = [V.int i, V.int j] ∧ ∀ p, H p = none → Q (.ref p) (upd H p (.rng i j))) tr) (gName i)) es st P := .mk fun {G H ρ σ D} S T k =>
  h.run S T fun vs G1 H1 ρ1 m1 S1 hv => by
    cases hv with
    | cons a b =>
      cases b with
      | cons b c =>
        cases c
        refine ⟨lo, hi, by rw [dq_int a, dq_int b], fun p hp => ?_⟩
        obtain ⟨S2, m2⟩ := S1.shared (.rng lo hi) hp
        exact k.nx _ _ _ _ _ _ hn (m1.trans m2) S2 (((T.mv m1).mv m2).put i ⟨p, rfl, upd_same⟩)
theorem w_drop (h : Ev K te es st st1 r) (hn : P.nx es st1) : Ws K W (tDrop te) es st P := .mk fun {G H ρ σ D} S T k => h.run S T fun v G1 H1 ρ1 m1 S1 hv => k.nx _ _ _ _ _ _ hn m1 S1 (T.mv m1)
theorem w_dropX {C : Addr} (h : ExC K W te es st C st1) (hn : P.ex C es st1) : Ws K W (tDrop te) es st P := .mk fun {G H ρ σ D} S T k => h.run S T fun G1 H1 ρ1 m1 S1 => k.ex _ _ _ _ _ C _ hn m1 S1 (T.mv m1)
theorem w_asgX {C : Addr} {g : TG} (h : ExC K W te es st C st1) (hn : P.ex C es st1) : Ws K W (tAsg te g) es st P := .mk fun {G H ρ σ D} S T k => h.run S T fun G1 H1 ρ1 m1 S1 => k.ex _ _ _ _ _ C _ hn m1 S1 (T.mv m1)
theorem w_ret (h : Ev K te es st st1 r) (hr : P.rt r st1) : Ws K W (tRet te) es st P := .mk fun {G H ρ σ D} S T k => h.run S T fun v G1 H1 ρ1 m1 S1 hv => k.rt v _ _ _ _ _ hr m1 S1 hv
theorem w_retX {C : Addr} (h : ExC K W te es st C st1) (hr : P.ex C es st1) : Ws K W (tRet te) es st P := .mk fun {G H ρ σ D} S T k => h.run S T fun G1 H1 ρ1 m1 S1 => k.ex _ _ _ _ _ C _ hr m1 S1 (T.mv m1)
theorem w_retN (hr : P.rt (.dat .none) st) : Ws K W tRetN es st P := .mk fun {G H ρ σ D} S T k => k.rt _ G H ρ _ _ hr Mv.refl S Dq.non
theorem w_if {b : Bool} (h : EvB K tc es st st1 b) (h1 : b = true → Ws K W t es st1 P) (h2 : b = false → Ws K W u es st1 P) : Ws K W (tIfS tc t u) es st P := .mk fun {G H ρ σ D} S T k =>
  h.run S T fun G1 H1 ρ1 m1 S1 => by
    cases b with
    | true => exact iteT ((h1 rfl).run S1 (T.mv m1) (k.mono m1))
    | false => exact iteF ((h2 rfl).run S1 (T.mv m1) (k.mono m1))
theorem w_aug {i : Nat} {f : Int → Int → Int} {a b : Int} (hi : es[i]? = some (.dat (.int a))) (h : Ev K te es st st1 (.dat (.int b))) (hn : P.nx (es.set i (.dat (.int (f a b)))) st1) : Ws K W (tAug i te (ipI f)) es st P := .mk fun {G H ρ σ D} S T k => by
  obtain ⟨v, hv, hd⟩ := T.ent i _ hi
  refine ⟨v, hv, h.run S T fun w G1 H1 ρ1 m1 S1 hw => ⟨a, b, dq_int hd, dq_int hw, ?_⟩⟩
  exact k.nx _ _ _ _ _ _ hn m1 S1 ((T.mv m1).put i ⟨_, rfl, Dq.int _⟩)
/-- raise -/
theorem w_raise {C : Addr} (h : P.ex C es st) : Ws K W (fun _ σ H => W (.ref C) none σ H) es st P := .mk fun {G H ρ σ D} S T k => k.ex G H ρ σ es C st h Mv.refl S T
theorem ob_at {G H : Hp} {ρ : List Addr} {k : Nat} {v : V} {o : Ob} (S : Sh K G H ρ st) (hv : ItAt K G ρ v (.ob k)) (hk : st[k]? = some o) : ∃ p, v = .ref p ∧ ρ[k]? = some p ∧ ObAt K G H ρ p o := by
  obtain ⟨p, rfl, hr⟩ := hv
  exact ⟨p, rfl, hr, S.ob k o p hk hr⟩
/-- xs.append(e) -/
theorem w_append {k : Nat} (h0 : Ev K ta es st st1 (.ob k)) (h01 : ∃ ys, st1[k]? = some (.lst ys)) (h : Ev K te es st1 st2 (.it x)) (hk : st2[k]? = some (.lst xs)) (hz : xs.length < 100000) (hn : P.nx es (st2.set k (.lst (xs ++ [x])))) : Ws K W (tDrop (tBM K "list" rAppend ta (tCons te tNil))) es st P := .mk fun {G H ρ σ D} S T kk =>
  h0.run S T fun u G1 H1 ρ1 m1 S1 hu => by
    obtain ⟨ys, hy⟩ := h01
    obtain ⟨p, rfl, hr, us, hp1, _⟩ := ob_at S1 hu hy
    refine ⟨.inl ⟨rfl, us, .inl (.inl hp1)⟩, h.run S1 (T.mv m1) fun v G2 H2 ρ2 m2 S2 hv => ?_⟩
    have hr2 := pre_get m2.pre hr
    obtain ⟨vs, hp, hx⟩ := S2.ob k _ p hk hr2
    refine ⟨p, vs, v, rfl, rfl, hp, sz_lt (by rw [its_len hx]; exact hz), ?_⟩
    obtain ⟨S3, m3⟩ := S2.set (u := .lst (vs ++ [v])) (o := .lst (xs ++ [x])) hr2 True.intro (fun q z => by rw [hp] at z; cases z) ⟨_, upd_same, Paired.snoc hx hv⟩
    exact kk.nx _ _ _ _ _ _ hn ((m1.trans m2).trans m3) S3 (((T.mv m1).mv m2).mv m3)
/-- d[k] = e -/
theorem put_at {G : Hp} {ρ : List Addr} {kvs : List (List Key × V)} {m : List (P2 × It)} {p : P2} {v : V} (h : Paired (fun (a : List Key × V) (b : P2 × It) => a.1 = pk b.1 ∧ ItAt K G ρ a.2 b.2) kvs m) (hv : ItAt K G ρ v x) :
    Paired (fun (a : List Key × V) (b : P2 × It) => a.1 = pk b.1 ∧ ItAt K G ρ a.2 b.2) (putK kvs (pk p) v) (putM m p x) := by
  have hany : (kvs.any fun kv => decide (kv.1 = pk p)) = m.any fun b => b.1 == p := by
    induction h with
    | nil => rfl
    | @cons a b l r hab t ih =>
      rw [List.any_cons, List.any_cons, ih]
      congr 1
      rw [hab.1]
      by_cases z : b.1 = p
      · rw [z, beq_self_eq_true, decide_eq_true rfl]
      · rw [beq_eq_false_iff_ne.mpr z, decide_eq_false fun q => z (pk_inj q)]
  unfold putK putM
  rw [hany]
  split
  · have gen : ∀ {l : List (List Key × V)} {r : List (P2 × It)}, Paired (fun (a : List Key × V) (b : P2 × It) => a.1 = pk b.1 ∧ ItAt K G ρ a.2 b.2) l r → Paired (fun (a : List Key × V) (b : P2 × It) => a.1 = pk b.1 ∧ ItAt K G ρ a.2 b.2) (l.map fun kv => if kv.1 = pk p then (kv.1, v) else kv) (r.map fun b => if b.1 = p then (b.1, x) else b) := by
      intro l r q
      induction q with
      | nil => exact .nil
      | @cons a b l r hab t ih =>
        refine .cons ?_ ih
        dsimp only
        by_cases z : b.1 = p
        · rw [if_pos (by rw [hab.1, z]), if_pos z]
          exact ⟨hab.1, hv⟩
        · rw [if_neg fun q => z (pk_inj (hab.1.symm.trans q)), if_neg z]
          exact hab
    exact gen h
  · exact Paired.snoc h ⟨rfl, hv⟩
theorem w_dput {k : Nat} {p : P2} {m : List (P2 × It)} (hv : Ev K te es st st1 (.it x)) (h0 : Ev K ta es st1 st2 (.ob k)) (h : Ev K tb es st2 st3 (.dat (.tuple [.int p.1, .int p.2]))) (hk : st3[k]? = some (.dic m)) (hz : m.length < 100000) (hn : P.nx es (st3.set k (.dic (putM m p x)))) : Ws K W (sDPut ta tb te) es st P := .mk fun {G H ρ σ D} S T kk =>
  hv.run S T fun v G1 H1 ρ1 m1 S1 hx => h0.run S1 (T.mv m1) fun u G2 H2 ρ2 m2 S2 hu => h.run S2 ((T.mv m1).mv m2) fun y G3 H3 ρ3 m3 S3 hy => by
    obtain ⟨a, rfl, hr⟩ := hu
    have hr3 := pre_get m3.pre hr
    obtain ⟨kvs, hp, hkv⟩ := S3.ob k _ a hk hr3
    obtain ⟨b, rfl, hb⟩ := key_at hy
    have hl : kvs.length = m.length := by
      clear hp hk hz hn
      induction hkv with
      | nil => rfl
      | cons _ _ ih => rw [List.length_cons, List.length_cons, ih]
    have hx3 : ItAt K G3 ρ3 v x := ItAt.up (m2.ex.trans m3.ex) (m2.pre.trans m3.pre) hx
    refine ⟨a, _, rfl, DPut.t hp (S3.ex _ _ hb) (sz_lt (by rw [hl]; exact hz)), ?_⟩
    obtain ⟨S4, m4⟩ := S3.set (u := .dT (putK kvs (pk p) v)) (o := .dic (putM m p x)) hr3 True.intro (fun q z => by rw [hp] at z; cases z) ⟨_, upd_same, put_at hkv hx3⟩
    exact kk.nx _ _ _ _ _ _ hn (((m1.trans m2).trans m3).trans m4) S4 ((((T.mv m1).mv m2).mv m3).mv m4)
/-! ### what is walked -/
/-- the same as Mv, but for some addresses -/
structure Mw (X : Addr → Prop) (G H : Hp) (ρ : List Addr) (G' H' : Hp) (ρ' : List Addr) : Prop where
  ex : Ex G G'
  pre : ρ <+: ρ'
  fm : ∀ a o, ¬ X a → H a = some o → G a = none → a ∉ ρ → H' a = some o ∧ G' a = none ∧ a ∉ ρ'
theorem Mv.mw {G H G' H' : Hp} {ρ ρ' : List Addr} {X : Addr → Prop} (m : Mv G H ρ G' H' ρ') : Mw X G H ρ G' H' ρ' := ⟨m.ex, m.pre, fun a o _ h1 h2 h3 => m.fm a o h1 h2 h3⟩
theorem Mw.trans {G H G' H' G2 H2 : Hp} {ρ ρ' ρ2 : List Addr} {X : Addr → Prop} (m : Mw X G H ρ G' H' ρ') (m2 : Mv G' H' ρ' G2 H2 ρ2) : Mw X G H ρ G2 H2 ρ2 := ⟨m.ex.trans m2.ex, m.pre.trans m2.pre, fun a o hx h1 h2 h3 => by
  obtain ⟨a1, a2, a3⟩ := m.fm a o hx h1 h2 h3
  exact m2.fm a o a1 a2 a3⟩
theorem Mw.poke {G H G' H' : Hp} {ρ ρ' : List Addr} {X : Addr → Prop} {D : Addr} {v : HO} (m : Mw X G H ρ G' H' ρ') (hD : X D) : Mw X G H ρ G' (upd H' D v) ρ' := ⟨m.ex, m.pre, fun a o hx h1 h2 h3 => by
  obtain ⟨a1, a2, a3⟩ := m.fm a o hx h1 h2 h3
  refine ⟨?_, a2, a3⟩
  rw [upd_ne fun z => hx (by rw [z]; exact hD)]
  exact a1⟩
abbrev Old (X : Addr → Prop) (H0 : Hp) : Prop := ∀ a, X a → ∃ o, H0 a = some o
abbrev xNo : Addr → Prop := fun _ => False
theorem old_no {H0 : Hp} : Old xNo H0 := fun _ z => z.elim
structure ItOk (K : PySem.W.Frag) (G H : Hp) (ρ : List Addr) (H0 : Hp) (ok : List Ob → Prop) (J : L2.It) (xs : List It) : Prop where
  go : ∀ X i G' H' ρ' s, Old X H0 → Mw X G H ρ G' H' ρ' → Sh K G' H' ρ' s → ok s → i < xs.length → J.go i H'
  yld : ∀ X i v G' H' H'' ρ' s, Old X H0 → Mw X G H ρ G' H' ρ' → Sh K G' H' ρ' s → ok s → i < xs.length → J.yld i H' v H'' → H'' = H' ∧ ∃ x, xs[i]? = some x ∧ ItAt K G' ρ' v x
  stop : ∀ X G' H' ρ' s, Old X H0 → Mw X G H ρ G' H' ρ' → Sh K G' H' ρ' s → ok s → J.stop xs.length H'
structure EvI (K : PySem.W.Frag) (wi : TI) (es : Es) (st st' : List Ob) (ok : List Ob → Prop) (xs : List It) : Prop where
  run : ∀ {G H : Hp} {ρ : List Addr} {σ : L2.St}, Sh K G H ρ st → Se K G ρ σ es → ∀ {R : L2.It → Hp → Prop}, (∀ J G' H' ρ', Mv G H ρ G' H' ρ' → Sh K G' H' ρ' st' → ItOk K G' H' ρ' H ok J xs → R J H') → wi σ H R
theorem it_list {G H H0 : Hp} {ρ : List Addr} {ok : List Ob → Prop} {a : Addr} (h : ∀ X G' H' ρ' s, Old X H0 → Mw X G H ρ G' H' ρ' → Sh K G' H' ρ' s → ok s → ∃ vs, SqL K H' a vs ∧ Its K G' ρ' vs xs) : ItOk K G H ρ H0 ok (Itl K a) xs where
  go := fun X i G' H' ρ' s o m S z hi => by
    obtain ⟨vs, hs, hx⟩ := h X G' H' ρ' s o m S z
    obtain ⟨v, hv, _⟩ := its_at hx (List.getElem?_eq_getElem hi)
    exact ⟨vs, v, hs, hv⟩
  yld := fun X i v G' H' H'' ρ' s o m S z hi y => by
    obtain ⟨vs, hs, hx⟩ := h X G' H' ρ' s o m S z
    obtain ⟨e1, y⟩ := y
    obtain ⟨w, hw, hx⟩ := its_at hx (List.getElem?_eq_getElem hi)
    have := y vs hs
    rw [hw] at this
    cases this
    exact ⟨e1, _, List.getElem?_eq_getElem hi, hx⟩
  stop := fun X G' H' ρ' s o m S z => by
    obtain ⟨vs, hs, hx⟩ := h X G' H' ρ' s o m S z
    exact ⟨vs, hs, by rw [its_len hx]; exact Nat.le_refl _⟩
abbrev all : List Ob → Prop := fun _ => True
theorem ei_list (h : Ev K te es st st1 (.dat (.list ds))) : EvI K (iList K te) es st st1 all (ds.map It.dat) := .mk fun {G H ρ σ} S T {R} q => h.run S T fun v G1 H1 ρ1 m1 S1 hv => by
  obtain ⟨p, vs, rfl, hs, hd⟩ := dq_lst hv
  exact ⟨p, rfl, ⟨vs, Evl.ex_l S1.ex hs⟩, q _ G1 H1 ρ1 m1 S1 (it_list fun X G' H' ρ' s o m S _ => ⟨vs, Evl.ex_l S.ex (Evl.ex_l m.ex hs), its_dqa (hd.up m.ex)⟩)⟩
theorem ei_ob {k : Nat} (h : Ev K te es st st1 (.ob k)) (hk : st1[k]? = some (.lst xs)) : EvI K (iList K te) es st st1 (fun s => s[k]? = some (.lst xs)) xs := .mk fun {G H ρ σ} S T {R} q => h.run S T fun v G1 H1 ρ1 m1 S1 hv => by
  obtain ⟨p, rfl, hr, vs, hp, hx⟩ := ob_at S1 hv hk
  refine ⟨p, rfl, ⟨vs, .inl (.inl hp)⟩, q _ G1 H1 ρ1 m1 S1 (it_list fun X G' H' ρ' s o m S z => ?_)⟩
  obtain ⟨vs', hp', hx'⟩ := S.ob k _ p z (pre_get m.pre hr)
  exact ⟨vs', .inl (.inl hp'), hx'⟩
theorem ei_fr (h : Ev K te es st st1 (.fr (.lst xs))) : EvI K (iList K te) es st st1 all xs := .mk fun {G H ρ σ} S T {R} q => h.run S T fun v G1 H1 ρ1 m1 S1 ⟨p, e, h0, gp, np, hu, nw, vs, hp, hx⟩ => by
  subst e
  refine ⟨p, rfl, ⟨vs, .inl (.inl hp)⟩, q _ G1 H1 ρ1 m1 S1 (it_list fun X G' H' ρ' s o m S _ => ⟨vs, .inl (.inl (m.fm p _ (fun z => by
    obtain ⟨u, hu⟩ := o p z
    rw [h0] at hu
    cases hu) hp gp np).1), hx.up m.ex m.pre⟩)⟩
theorem ei_tup (h : Ev K te es st st1 (.dat (.tuple ds))) : EvI K (iTup K te) es st st1 all (ds.map It.dat) := .mk fun {G H ρ σ} S T {R} q => h.run S T fun v G1 H1 ρ1 m1 S1 hv => by
  obtain ⟨p, vs, rfl, hs, _, hd⟩ := dq_tup hv
  have l := its_len (ρ := ρ1) (its_dqa hd)
  refine ⟨p, rfl, ⟨vs, Evl.ex_t S1.ex hs⟩, q _ G1 H1 ρ1 m1 S1 ⟨fun X i G' H' ρ' s o m S z hi => ?_, fun X i v G' H' H'' ρ' s o m S z hi y => ?_, fun X G' H' ρ' s o m S z => ⟨vs, Evl.ex_t S.ex (Evl.ex_t m.ex hs), by rw [l]; exact Nat.le_refl _⟩⟩⟩
  · obtain ⟨v, hv, _⟩ := its_at (ρ := ρ1) (its_dqa hd) (List.getElem?_eq_getElem hi)
    exact ⟨vs, v, Evl.ex_t S.ex (Evl.ex_t m.ex hs), hv⟩
  · obtain ⟨e1, y⟩ := y
    obtain ⟨w, hw, hx⟩ := its_at (its_dqa (ρ := ρ') (hd.up m.ex)) (List.getElem?_eq_getElem hi)
    have := y vs (Evl.ex_t S.ex (Evl.ex_t m.ex hs))
    rw [hw] at this
    cases this
    exact ⟨e1, _, List.getElem?_eq_getElem hi, hx⟩
theorem it_rng {G H H0 : Hp} {ρ : List Addr} {lo : Int} {n : Nat} : ItOk K G H ρ H0 all (Itr lo n) ((Pu.rngD lo n).map It.dat) where
  go := fun X i G' H' ρ' s o m S z hi => by
    rw [List.length_map, Pu.rngD_len] at hi
    exact hi
  yld := fun X i v G' H' H'' ρ' s o m S z hi y => by
    rw [List.length_map, Pu.rngD_len] at hi
    obtain ⟨e1, rfl⟩ := y
    exact ⟨e1, .dat (.int (lo + (i : Nat))), by rw [List.getElem?_map, Pu.rngD_get hi]; rfl, Dq.int _⟩
  stop := fun X G' H' ρ' s o m S z => by
    rw [List.length_map, Pu.rngD_len]
    exact Nat.le_refl _
theorem ei_rng1 {tr : TA} {n : Int} (h : EvA K tr es st st1 [.dat (.int n)]) (hn : -(2 ^ 62) ≤ n ∧ n < 2 ^ 62) : EvI K (iRng1 tr) es st st1 all ((Pu.rngD 0 n.toNat).map It.dat) := .mk fun {G H ρ σ} S T {R} q => h.run S T fun vs G1 H1 ρ1 m1 S1 hv => by
  cases hv with
  | cons a b =>
    cases b
    exact ⟨n, by rw [dq_int a], hn.1, hn.2, q _ G1 H1 ρ1 m1 S1 it_rng⟩
theorem ei_rng2 {tr : TA} {l n : Int} (h : EvA K tr es st st1 [.dat (.int l), .dat (.int n)]) (hm : -(2 ^ 62) ≤ l ∧ l < 2 ^ 62) (hn : -(2 ^ 62) ≤ n ∧ n < 2 ^ 62) : EvI K (iRng2 tr) es st st1 all ((Pu.rngD l (n - l).toNat).map It.dat) := .mk fun {G H ρ σ} S T {R} q => h.run S T fun vs G1 H1 ρ1 m1 S1 hv => by
  cases hv with
  | cons a b =>
    cases b with
    | cons b c =>
      cases c
      exact ⟨l, n, by rw [dq_int a, dq_int b], ⟨hm.1, hm.2, hn.1, hn.2⟩, q _ G1 H1 ρ1 m1 S1 it_rng⟩
theorem ei_rngO {i : Nat} {lo hi : Int} (h : es[i]? = some (.rng lo hi)) : EvI K (Pu.iRngO (tVar i)) es st st all ((Pu.rngD lo (hi - lo).toNat).map It.dat) := .mk fun {G H ρ σ} S T {R} q => by
  obtain ⟨p, hv, hp⟩ := T.ent i _ h
  exact ⟨_, hv, p, lo, hi, rfl, S.ex _ _ hp, q _ G H ρ Mv.refl S it_rng⟩
/-! ### loops -/
theorem w_forN {wi : TI} {j : Nat} {ok : List Ob → Prop} (h : EvI K wi es st st1 ok xs) (Iv : Nat → Es → List Ob → Prop) (h0 : Iv 0 es st1) (hok : ∀ i e s, Iv i e s → ok s)
    (hs : ∀ i x e s, xs[i]? = some x → Iv i e s → Ws K W t (e.set j (.it x)) s ⟨Iv (i + 1), P.rt, P.nx, Iv (i + 1), P.ex⟩) (hd : ∀ e s, Iv xs.length e s → P.nx e s) : Ws K W (tFor wi (gName j) t) es st P := .mk fun {G H ρ σ D} S T k =>
  h.run S T fun J G1 H1 ρ1 m1 S1 hJ => by
    refine ⟨fun i m σ' H' => m = xs.length - i ∧ i ≤ xs.length ∧ ∃ G' ρ' e s, Iv i e s ∧ Mv G1 H1 ρ1 G' H' ρ' ∧ Sh K G' H' ρ' s ∧ Se K G' ρ' σ' e, ⟨xs.length, by simp, Nat.zero_le _, G1, ρ1, es, st1, h0, Mv.refl, S1, T.mv m1⟩, ?_⟩
    rintro i m σ' H' ⟨rfl, hi, G', ρ', e, s, hv, mm, S', T'⟩
    have mt := m1.trans mm
    by_cases hlt : i < xs.length
    · refine .inr ⟨hJ.go xNo i _ _ _ s old_no mm.mw S' (hok _ _ _ hv) hlt, fun σ2 H3 => ∃ G2 ρ2 e2 s2, Iv (i + 1) e2 s2 ∧ Mv G1 H1 ρ1 G2 H3 ρ2 ∧ Sh K G2 H3 ρ2 s2 ∧ Se K G2 ρ2 σ2 e2, fun σ2 H3 q => ⟨xs.length - (i + 1), by omega, rfl, hlt, q⟩, fun v H3 y => ?_⟩
      obtain ⟨rfl, x, hxi, hx⟩ := hJ.yld xNo i v _ _ _ _ s old_no mm.mw S' (hok _ _ _ hv) hlt y
      refine (hs i x e s hxi hv).run S' (T'.put j ⟨v, rfl, hx⟩) ⟨?_, ?_, ?_, ?_, ?_⟩
      · exact fun G3 H4 ρ3 σ3 e3 s3 q m3 S3 T3 => ⟨G3, ρ3, e3, s3, q, mm.trans m3, S3, T3⟩
      · exact fun G3 H4 ρ3 σ3 e3 s3 q m3 S3 T3 => k.nx _ _ _ _ _ _ q (mt.trans m3) S3 T3
      · exact fun G3 H4 ρ3 σ3 e3 s3 q m3 S3 T3 => ⟨G3, ρ3, e3, s3, q, mm.trans m3, S3, T3⟩
      · exact fun v G3 H4 ρ3 r s3 q m3 S3 o => k.rt _ _ _ _ _ _ q (mt.trans m3) S3 (o.back mt)
      · exact fun G3 H4 ρ3 σ3 e3 C s3 q m3 S3 T3 => k.ex _ _ _ _ _ _ _ q (mt.trans m3) S3 T3
    · have e1 : i = xs.length := by omega
      subst e1
      exact .inl ⟨hJ.stop xNo _ _ _ s old_no mm.mw S' (hok _ _ _ hv), k.nx _ _ _ _ _ _ (hd _ _ hv) mt S' T'⟩
theorem w_while (Iv : Nat → Es → List Ob → Prop) (m0 : Nat) (h0 : Iv m0 es st)
    (hs : ∀ m e s, Iv m e s → ∃ b s1, EvB K tc e s s1 b ∧ (b = true → Ws K W t e s1 ⟨fun e' s' => ∃ m', m' < m ∧ Iv m' e' s', P.rt, P.nx, fun e' s' => ∃ m', m' < m ∧ Iv m' e' s', P.ex⟩) ∧ (b = false → P.nx e s1)) : Ws K W (tWhile tc t) es st P := .mk fun {G H ρ σ D} S T k => by
  refine ⟨fun m σ' H' => ∃ G' ρ' e s, Iv m e s ∧ Mv G H ρ G' H' ρ' ∧ Sh K G' H' ρ' s ∧ Se K G' ρ' σ' e, ⟨m0, G, ρ, es, st, h0, Mv.refl, S, T⟩, ?_⟩
  rintro m σ' H' ⟨G', ρ', e, s, hv, mm, S', T'⟩
  obtain ⟨b, s1, hb, h1, h2⟩ := hs m e s hv
  refine hb.run S' T' fun G2 H2 ρ2 m2 S2 => ?_
  have mt := mm.trans m2
  cases b with
  | true =>
    refine iteT ⟨fun σ2 H3 => ∃ m', m' < m ∧ ∃ G2 ρ2 e2 s2, Iv m' e2 s2 ∧ Mv G H ρ G2 H3 ρ2 ∧ Sh K G2 H3 ρ2 s2 ∧ Se K G2 ρ2 σ2 e2, fun σ2 H3 ⟨m', hm, q⟩ => ⟨m', hm, q⟩, (h1 rfl).run S2 (T'.mv m2) ⟨?_, ?_, ?_, ?_, ?_⟩⟩
    · rintro G3 H3 ρ3 σ3 e3 s3 ⟨m', hm, q⟩ m3 S3 T3
      exact ⟨m', hm, G3, ρ3, e3, s3, q, mt.trans m3, S3, T3⟩
    · exact fun G3 H3 ρ3 σ3 e3 s3 q m3 S3 T3 => k.nx _ _ _ _ _ _ q (mt.trans m3) S3 T3
    · rintro G3 H3 ρ3 σ3 e3 s3 ⟨m', hm, q⟩ m3 S3 T3
      exact ⟨m', hm, G3, ρ3, e3, s3, q, mt.trans m3, S3, T3⟩
    · exact fun v G3 H3 ρ3 r s3 q m3 S3 o => k.rt _ _ _ _ _ _ q (mt.trans m3) S3 (o.back mt)
    · exact fun G3 H3 ρ3 σ3 e3 C s3 q m3 S3 T3 => k.ex _ _ _ _ _ _ _ q (mt.trans m3) S3 T3
  | false => exact iteF (k.nx _ _ _ _ _ _ (h2 rfl) mt S2 (T'.mv m2))
end
end Pv

/-! second make: a def as a whole; comprehensions -/
namespace Pv
open PySem PySem.Spec L2
open Evl (Ex sz_of sz_lt)
open PyProof.Rows (envOfC)
def okIt (n : Nat) : It → Bool
  | .dat _ => true
  | .ob i => decide (i < n)
def okOb (n : Nat) : Ob → Bool
  | .lst xs => xs.all (okIt n)
  | .dic m => m.all fun b => okIt n b.2
  | .dicF _ _ m => m.all fun b => okIt n b.2
  | .ins _ fs => fs.all fun b => okIt n b.2
  | .ext _ => true
  | .nil => true
def okRv (n : Nat) : Rv → Bool
  | .it x => okIt n x
  | .fr o => okOb n o
def okSt (st : List Ob) : Bool := st.all (okOb st.length)
section
variable {K : PySem.W.Frag} {G G' H H' : Hp} {ρ ρ' : List Addr} {st st' ex : List Ob} {n : Nat}
theorem ItAt.take {v : V} : ∀ {x : It}, ItAt K G ρ v x → okIt n x = true → ItAt K G (ρ.take n) v x
  | .dat d, h, _ => h
  | .ob i, ⟨p, a, b⟩, h => ⟨p, a, by rw [List.getElem?_take, if_pos (of_decide_eq_true h)]; exact b⟩
theorem its_take {vs : List V} {xs : List It} (h : Its K G ρ vs xs) (hx : xs.all (okIt n) = true) : Its K G (ρ.take n) vs xs := by
  induction h with
  | nil => exact .nil
  | cons a b ih =>
    rw [List.all_cons, Bool.and_eq_true] at hx
    exact .cons (a.take hx.1) (ih hx.2)
theorem mem_take {p : Addr} (h : p ∈ ρ.take n) : p ∈ ρ := List.mem_of_mem_take h
theorem ObAt.take {p : Addr} : ∀ {o : Ob}, ObAt K G H ρ p o → okOb n o = true → ObAt K G H (ρ.take n) p o
  | .lst xs, ⟨vs, a, b⟩, h => ⟨vs, a, its_take b h⟩
  | .dic m, ⟨kvs, a, b⟩, h => ⟨kvs, a, by
    clear a
    have h : (m.all fun b => okIt n b.2) = true := h
    induction b with
    | nil => exact .nil
    | cons z _ ih =>
      rw [List.all_cons, Bool.and_eq_true] at h
      exact .cons ⟨z.1, z.2.take h.1⟩ (ih h.2 h.2)⟩
  | .dicF od kvs m, ⟨a, b⟩, h => ⟨a, by
    clear a
    have h : (m.all fun b => okIt n b.2) = true := h
    induction b with
    | nil => exact .nil
    | cons z _ ih =>
      rw [List.all_cons, Bool.and_eq_true] at h
      exact .cons ⟨z.1, z.2.take h.1⟩ (ih h.2 h.2)⟩
  | .ins C fs, ⟨dx, fv, a, b, c, d, f⟩, h => ⟨dx, fv, a, b, c, fun z => d (mem_take z), by
    clear a
    have h : (fs.all fun b => okIt n b.2) = true := h
    induction f with
    | nil => exact .nil
    | cons z _ ih =>
      rw [List.all_cons, Bool.and_eq_true] at h
      exact .cons ⟨z.1, z.2.take h.1⟩ (ih h.2 h.2)⟩
  | .ext x, h, _ => h
  | .nil, _, _ => True.intro
theorem Sh.forget (S : Sh K G H ρ (st ++ ex)) (h : okSt st = true) : Sh K G H (ρ.take st.length) st := by
  refine ⟨S.ex, S.prv, ?_, S.nd.sublist (List.take_sublist _ _), fun p hp => S.pr p (mem_take hp), fun i o p h1 h2 => ?_⟩
  · rw [List.length_take, S.len, List.length_append]
    omega
  · have hi := (List.getElem?_eq_some_iff.mp h1).1
    rw [List.getElem?_take, if_pos hi] at h2
    exact (S.ob i o p (by rw [List.getElem?_append_left hi]; exact h1) h2).take (List.all_eq_true.mp h o (List.mem_of_getElem? h1))
theorem Mv.take (m : Mv G H ρ G' H' ρ') (h : ρ.length ≤ n) : Mv G H ρ G' H' (ρ'.take n) where
  ex := m.ex
  pre := by
    obtain ⟨t, rfl⟩ := m.pre
    rw [List.take_append, List.take_of_length_le h]
    exact List.prefix_append _ _
  fm := fun a o h1 h2 h3 => by
    obtain ⟨b1, b2, b3⟩ := m.fm a o h1 h2 h3
    exact ⟨b1, b2, fun z => b3 (mem_take z)⟩
  al := m.al
  nw := fun p h1 h2 => m.nw p (mem_take h1) h2
/-- how a def's statements end as promised -/
def RetOk (r : Rv) (s : List Ob) : Out → Prop
  | .ret r' st' => ∃ ex, s = st' ++ ex ∧ okSt st' = true ∧ ((r = r' ∧ okRv st'.length r' = true) ∨ ∃ i o, r = .it (.ob i) ∧ st'.length ≤ i ∧ s[i]? = some o ∧ r' = .fr o ∧ okOb st'.length o = true ∧ o ≠ .nil)
  | .exc _ _ => False
def ExcOk (C : Addr) (s : List Ob) : Out → Prop
  | .exc C' st' => C = C' ∧ ∃ ex, s = st' ++ ex ∧ okSt st' = true
  | .ret _ _ => False
def outSt : Out → List Ob
  | .ret _ s => s
  | .exc _ s => s
def fnPost (o : Out) : Post := { nx := fun _ s => RetOk (.dat .none) s o, rt := fun r s => RetOk r s o, ex := fun C _ s => ExcOk C s o }
theorem not_own {p : Addr} : ∀ {o : Ob}, ObAt K G H ρ p o → o ≠ .nil → ∀ q, H p ≠ some (.own q)
  | .lst _, ⟨_, a, _⟩, _, q => fun z => by rw [a] at z; cases z
  | .dic _, ⟨_, a, _⟩, _, q => fun z => by rw [a] at z; cases z
  | .dicF _ _ _, ⟨a, _⟩, _, q => fun z => by rw [a] at z; cases z
  | .ins _ _, ⟨_, _, a, _⟩, _, q => fun z => by rw [a] at z; cases z
  | .ext x, ⟨o, a, b⟩, _, q => fun z => by rw [a] at z; cases z; exact (x.no b).2 q rfl
  | .nil, _, h, _ => absurd rfl h
theorem dk_fn {E : XK} {Q : VK} {o : Out} (hl : ρ.length ≤ (outSt o).length) (h : OutOk K G H ρ Q E o) : Dk K (cW E) G H ρ (fnPost o) { nx := fun _ H' => Q .non H', rt := Q } := by
  have rt : ∀ v G' H' ρ' r s, RetOk r s o → Mv G H ρ G' H' ρ' → Sh K G' H' ρ' s → RvAt K G' H' ρ' H v r → Q v H' := by
    intro v G' H' ρ' r s hr m S hv
    cases o with
    | exc C st' => exact hr.elim
    | ret r' st' =>
      obtain ⟨ex, rfl, ok, hr⟩ := hr
      have hl : ρ.length ≤ st'.length := hl
      refine h v G' H' (ρ'.take st'.length) (m.take hl) (S.forget ok) ?_
      rcases hr with ⟨rfl, hk⟩ | ⟨i, o, rfl, hi, ho, rfl, hk, nn⟩
      · cases r with
        | it x => exact ItAt.take (show ItAt K G' ρ' v x from hv) hk
        | fr o =>
          obtain ⟨p, e, h0, gp, np, hu, nw, hb⟩ := hv
          exact ⟨p, e, h0, gp, fun z => np (mem_take z), hu, nw, hb.take hk⟩
      · obtain ⟨p, e, hp⟩ := hv
        have hb := S.ob i o p ho hp
        have hm := List.mem_of_getElem? hp
        have hlt := (List.getElem?_eq_some_iff.mp hp).1
        have out : ∀ j, j ≤ i → p ∉ ρ'.take j := fun j hj z => by
          obtain ⟨q, hq, e2⟩ := List.mem_take_iff_getElem.mp z
          have e3 : ρ'[q]? = ρ'[i]? := by
            rw [hp, List.getElem?_eq_getElem (by omega), e2]
          have := (List.getElem?_inj (by omega) S.nd).mp e3
          omega
        refine ⟨p, e, m.nw p hm fun z => ?_, (S.pr p hm).1, out _ hi, (S.pr p hm).2, not_own hb nn, hb.take hk⟩
        obtain ⟨t, rfl⟩ := m.pre
        refine out ρ.length (by omega) ?_
        rw [List.take_left']
        · exact z
        · rfl
  refine ⟨fun G' H' ρ' σ' es' s hn m S T => rt _ _ _ _ _ s hn m S Dq.non, fun _ _ _ _ _ _ z => z.elim, fun _ _ _ _ _ _ z => z.elim, fun v G' H' ρ' r s hr m S hv => rt v _ _ _ _ s hr m S hv, fun G' H' ρ' σ' es' C s hr m S T => ?_⟩
  cases o with
  | ret r st' => exact hr.elim
  | exc C' st' =>
    obtain ⟨rfl, ex, rfl, ok⟩ := hr
    exact h G' H' (ρ'.take st'.length) (m.take hl) (S.forget ok)
end
/-! ### a def -/
def startE (N : List Str) (xs : List It) : Es := xs.map .it ++ List.replicate (N.length - xs.length) .no
section
variable {P : Program} {w : World} {K : PySem.W.Frag} {mg : Str → Option Value} {base : Heap} {α : Type} {args : α → List It} {pre : α → Prop} {stf : α → List Ob} {out : α → Out}
theorem se_start {N : List Str} {vs : List V} {xs : List It} {G : Hp} {ρ : List Addr} (h : Its K G ρ vs xs) : Se K G ρ (L2.start N vs) (startE N xs) := by
  have hl := its_len h
  refine ⟨?_, fun i e hi => ?_⟩
  · unfold startE L2.start
    rw [List.length_append, List.length_append, List.length_map, List.length_map, List.length_replicate, List.length_replicate, hl]
  · unfold startE at hi
    by_cases hlt : i < xs.length
    · rw [List.getElem?_append_left (by rw [List.length_map]; exact hlt), List.getElem?_map, List.getElem?_eq_getElem hlt] at hi
      cases hi
      obtain ⟨v, hv, hx⟩ := its_at h (List.getElem?_eq_getElem hlt)
      refine ⟨v, ?_, hx⟩
      unfold L2.start
      rw [List.getElem?_append_left (by rw [List.length_map, hl]; exact hlt), List.getElem?_map, hv]
      rfl
    · rw [List.getElem?_append_right (by rw [List.length_map]; omega)] at hi
      rw [List.eq_of_mem_replicate (List.mem_of_getElem? hi)]
      exact True.intro
/-- no exception leaves it -/
theorem fn_v {x qual : Str} {st : Stmt} {f : Addr} {fd : FuncData} {N ps : List Str} {k : Nat} (F : Fun K x qual st f fd) (S : FnScope N ps (defScope st)) (hl : ∀ a, (args a).length = ps.length)
    (hs : ∀ a, pre a → (stf a).length ≤ (outSt (out a)).length)
    (h : ∀ (cdv : Value) (A : Around) (outer : List Env) (s : Shared) (H : Hp) (E : XK), Room k (A.deeper (envOfC qual (defScope st) s.heap.objs.size f cdv)) →
      ∃ t, PSs (cxOf CX0 P w K mg base N qual (defScope st) f cdv A outer s H E).nox (defBody st) t ∧ ∀ a, pre a → Ws K (cW E) t (startE N (args a)) (stf a) (fnPost (out a))) :
    FnOk P w K mg base CX0 (k + 1) f fd ps (spV K args pre stf out) := by
  refine F.ok S (fun vs H Q E ⟨a, G, ρ, _, _, hv, _⟩ => by rw [its_len hv, hl]) (fun cdv A outer s H vs Q E hr hsp => ?_)
  obtain ⟨a, G, ρ, hp, Sa, hv, q⟩ := hsp
  obtain ⟨t, ht, hw⟩ := h cdv A outer s H E hr
  exact ⟨t, ht, (hw a hp).run Sa (se_start hv) (dk_fn (by rw [Sa.len]; exact hs a hp) q)⟩
/-- one may leave it -/
theorem fn_vX {x qual : Str} {st : Stmt} {f : Addr} {fd : FuncData} {N ps : List Str} {k : Nat} (F : Fun K x qual st f fd) (S : FnScope N ps (defScope st)) (hl : ∀ a, (args a).length = ps.length)
    (hs : ∀ a, pre a → (stf a).length ≤ (outSt (out a)).length)
    (h : ∀ (cdv : Value) (A : Around) (outer : List Env) (s : Shared) (H : Hp) (E : XK), Room k (A.deeper (envOfC qual (defScope st) s.heap.objs.size f cdv)) →
      ∃ t, PSs (cxOf (L2.CX P w) P w K mg base N qual (defScope st) f cdv A outer s H E) (defBody st) t ∧ ∀ a, pre a → Ws K (cW E) t (startE N (args a)) (stf a) (fnPost (out a))) :
    FnOk P w K mg base (L2.CX P w) (k + 1) f fd ps (spV K args pre stf out) := by
  refine F.okX S (fun vs H Q E ⟨a, G, ρ, _, _, hv, _⟩ => by rw [its_len hv, hl]) (fun cdv A outer s H vs Q E hr hsp => ?_)
  obtain ⟨a, G, ρ, hp, Sa, hv, q⟩ := hsp
  obtain ⟨t, ht, hw⟩ := h cdv A outer s H E hr
  exact ⟨t, ht, (hw a hp).run Sa (se_start hv) (dk_fn (by rw [Sa.len]; exact hs a hp) q)⟩
end
/-! ### comprehensions -/
section
variable {K : PySem.W.Frag} {es : Es} {st st1 : List Ob} {te : TE} {tt : TT}
theorem Sh.poke {G H : Hp} {ρ : List Addr} {p : Addr} {u v : HO} (S : Sh K G H ρ st) (gp : G p = none) (np : p ∉ ρ) (hp : H p = some u) (no : ∀ q, u ≠ .own q) (nt : NT v) : Sh K G (upd H p v) ρ st := by
  refine ⟨fun a o h => ?_, fun a o h1 h2 => ?_, S.len, S.nd, fun q hq => ?_, fun i o q h1 h2 => ?_⟩
  · rw [upd_ne fun z => by rw [z, gp] at h; cases h]
    exact S.ex a o h
  · by_cases z : a = p
    · rw [z, upd_same] at h2
      cases h2
      exact nt
    · rw [upd_ne z] at h2
      exact S.prv a o h1 h2
  · have z : q ≠ p := fun z => np (by rw [← z]; exact hq)
    rw [upd_ne z]
    exact S.pr q hq
  · have z : q ≠ p := fun z => np (by rw [← z]; exact List.mem_of_getElem? h2)
    refine (S.ob i o q h1 h2).up (Ex.refl _) (List.prefix_refl _) (upd_ne z) fun dx h3 h4 h5 => ⟨upd_ne fun z2 => ?_, h4, h5⟩
    rw [z2, hp] at h3
    cases h3
    exact no q rfl
theorem Mv.poke {G1 H1 G H : Hp} {ρ1 ρ : List Addr} {p : Addr} {u v : HO} (m : Mv G1 H1 ρ1 G H ρ) (h0 : H1 p = none) (hp : H p = some u) : Mv G1 H1 ρ1 G (upd H p v) ρ where
  ex := m.ex
  pre := m.pre
  fm := fun a o h1 h2 h3 => by
    obtain ⟨b1, b2, b3⟩ := m.fm a o h1 h2 h3
    refine ⟨?_, b2, b3⟩
    rw [upd_ne fun z => by rw [z, h0] at h1; cases h1]
    exact b1
  al := fun a h => by
    by_cases z : a = p
    · rw [z]
      exact h0
    · rw [upd_ne z] at h
      exact m.al a h
  nw := m.nw
theorem dqa_snoc {G : Hp} {d : PyData} {v : V} {ds : List PyData} {vs : List V} (h : DqAll K G vs ds) (h' : Dq K G v d) : DqAll K G (vs ++ [v]) (ds ++ [d]) := dqa_app h (.cons h' .nil)
/-- what is being built: private, in no store -/
structure Bld (K : PySem.W.Frag) (G1 H1 : Hp) (ρ1 : List Addr) (D : Addr) (st : List Ob) (H : Hp) (ds : List PyData) : Prop where
  at' : ∃ G ρ, Mv G1 H1 ρ1 G H ρ ∧ Sh K G H ρ st ∧ G D = none ∧ D ∉ ρ ∧ ∃ acc, H D = some (.lst acc) ∧ DqAll K G acc ds
theorem ev_lc {α : Type} {wi : TI} {j : Nat} {vs : List Nat} {ok : List Ob → Prop} {as : List α} {enc : α → It} (f : α → Bool) (g : α → PyData) (h : EvI K wi es st st1 ok (as.map enc)) (hok : ok st1) (hz : as.length ≤ 50000) (hj : ∀ σ x, wipe ((wipe σ vs).set j x) vs = wipe σ vs)
    (ht : ∀ a ∈ as, EvB K tt ((wipeE es vs).set j (.it (enc a))) st1 st1 (f a)) (he : ∀ a ∈ as, f a = true → Ev K te ((wipeE es vs).set j (.it (enc a))) st1 st1 (.dat (g a))) : Ev K (tLc wi (gName j) tt te vs) es st st1 (.fr (.lst (((as.filter f).map g).map It.dat))) := .mk fun {G H ρ σ} S T {Q} q =>
  h.run S T fun J G1 H1 ρ1 m1 S1 hJ D hD => by
    have la : (as.map enc).length = as.length := List.length_map _
    obtain ⟨S1', m1'⟩ := S1.priv (o := .lst []) True.intro hD
    have nD : D ∉ ρ1 := fun z => by
      obtain ⟨_, u, hu⟩ := S1.pr D z
      rw [hD] at hu
      cases hu
    refine ⟨fun i m H' => m = as.length - i ∧ i ≤ as.length ∧ Bld K G1 H1 ρ1 D st1 H' (((as.take i).filter f).map g), ⟨as.length, by simp, Nat.zero_le _, G1, ρ1, m1', S1', fresh_back S1.ex hD, nD, [], upd_same, .nil⟩, ?_⟩
    rintro i m H' ⟨rfl, hi, G', ρ', mm, S', gD, nD', acc, ha, hda⟩
    by_cases hlt : i < as.length
    · refine .inr ⟨hJ.go xNo i _ _ _ st1 old_no mm.mw S' hok (by rw [la]; exact hlt), fun H' => i + 1 ≤ as.length ∧ Bld K G1 H1 ρ1 D st1 H' (((as.take (i + 1)).filter f).map g), fun H3 w => ⟨as.length - (i + 1), by omega, rfl, w⟩, fun v H3 y => ?_⟩
      obtain ⟨rfl, x, hxi, hx⟩ := hJ.yld xNo i v _ _ _ _ st1 old_no mm.mw S' hok (by rw [la]; exact hlt) y
      rw [List.getElem?_map] at hxi
      obtain ⟨a, hai, rfl⟩ := Option.map_eq_some_iff.mp hxi
      have hm : a ∈ as := List.mem_of_getElem? hai
      have T' := ((T.mv (m1.trans mm)).wipe vs).put j (v := some v) (e := .it (enc a)) ⟨v, rfl, hx⟩
      refine ⟨hj σ (some v), (ht a hm).run S' T' fun G4 H4 ρ4 m4 S4 => ?_⟩
      obtain ⟨a4, g4, n4⟩ := m4.fm D _ ha gD nD'
      have lacc : acc.length ≤ i := by
        have l := its_len (ρ := ρ') (its_dqa hda)
        rw [List.length_map, List.length_map] at l
        rw [l]
        exact Nat.le_trans (List.length_filter_le _ _) (by rw [List.length_take]; exact Nat.min_le_left _ _)
      cases hf : f a with
      | true =>
        refine iteT ((he a hm hf).run S4 (T'.mv m4) fun z G5 H5 ρ5 m5 S5 hz' => ?_)
        obtain ⟨a5, g5, n5⟩ := m5.fm D _ a4 g4 n4
        refine ⟨acc, a5, sz_lt (by omega), hlt, G5, ρ5, ((mm.trans m4).trans m5).poke hD a5, S5.poke g5 n5 a5 (fun q z => nomatch z) True.intro, g5, n5, acc ++ [z], upd_same, ?_⟩
        rw [List.take_add_one, hai, List.filter_append, List.map_append]
        show DqAll K G5 (acc ++ [z]) (_ ++ ([a].filter f).map g)
        rw [List.filter_cons, if_pos hf]
        exact dqa_snoc (hda.up (m4.ex.trans m5.ex)) hz'
      | false =>
        refine iteF ⟨hlt, G4, ρ4, mm.trans m4, S4, g4, n4, acc, a4, ?_⟩
        rw [List.take_add_one, hai, List.filter_append, List.map_append]
        show DqAll K G4 acc (_ ++ ([a].filter f).map g)
        rw [List.filter_cons, if_neg (by rw [hf]; decide)]
        show DqAll K G4 acc (_ ++ [])
        rw [List.append_nil]
        exact hda.up m4.ex
    · have e : i = as.length := by omega
      subst e
      rw [List.take_length] at hda
      refine .inl ⟨by rw [← la]; exact hJ.stop xNo _ _ _ st1 old_no mm.mw S' hok, q _ G' H' ρ' (m1.trans mm) S' ⟨D, rfl, m1.al D hD, gD, nD', ⟨_, ha⟩, (fun q z => by rw [ha] at z; cases z), acc, ha, its_dqa hda⟩⟩
end
end Pv

/-! second make: dicts from places, walked; instances -/
namespace Pv
open PySem PySem.Spec L2
open Evl (Ex sz_of sz_lt)
open PyProof.Rows (envOfC)
def pD (p : P2) : PyData := .tuple [.int p.1, .int p.2]
section
variable {K : PySem.W.Frag} {es : Es} {st st1 st2 st3 : List Ob} {ta tb te : TE} {tc : TT} {t u : TS} {d e : PyData} {ds : List PyData} {x y : It} {xs ys : List It} {r : Rv} {W : WE} {P : Post} {m : List (P2 × It)}
abbrev DM (K : PySem.W.Frag) (G : Hp) (ρ : List Addr) : List (List Key × V) → List (P2 × It) → Prop := Paired (fun (a : List Key × V) (b : P2 × It) => a.1 = pk b.1 ∧ ItAt K G ρ a.2 b.2)
theorem dm_len {G : Hp} {ρ : List Addr} {kvs : List (List Key × V)} (h : DM K G ρ kvs m) : kvs.length = m.length := by
  induction h with
  | nil => rfl
  | cons _ _ ih => rw [List.length_cons, List.length_cons, ih]
theorem dm_at {G : Hp} {ρ : List Addr} {kvs : List (List Key × V)} (h : DM K G ρ kvs m) : ∀ {i : Nat} {k : List Key} {v : V}, kvs[i]? = some (k, v) → ∃ b, m[i]? = some b ∧ k = pk b.1 ∧ ItAt K G ρ v b.2 := by
  induction h with
  | nil => intro i k v e; simp at e
  | cons a b ih =>
    intro i k v e
    cases i with
    | zero =>
      cases (show some _ = some (k, v) from e)
      exact ⟨_, rfl, a.1, a.2⟩
    | succ i => exact ih (i := i) e
/-- a place's own tuple is shared -/
theorem key_dq {G H : Hp} {ρ : List Addr} {q : Addr} {p : P2} (S : Sh K G H ρ st) (h : H q = some (.tup ((pk p).map kV))) : Dq K G (.ref q) (pD p) := by
  have g : G q = some (.tup ((pk p).map kV)) := by
    cases z : G q with
    | none => exact (S.prv q _ z h).elim
    | some o =>
      have := S.ex q o z
      rw [h] at this
      cases this
      rfl
  exact Dq.tup (xs := [.int p.1, .int p.2]) (.inl (.inl g)) (fun _ => g) (.cons (Dq.int _) (.cons (Dq.int _) .nil))
/-- a dict that is locked for a statement -/
theorem w_lock {k : Nat} (hk : st[k]? = some (.dic m)) (h : ∀ od kvs, Ws K W t es (st.set k (.dicF od kvs m)) ⟨fun e s => s[k]? = some (.dicF od kvs m) ∧ P.nx e (s.set k (.dic m)), fun r s => s[k]? = some (.dicF od kvs m) ∧ P.rt r (s.set k (.dic m)) ∧ ∃ x, r = .it x, fun e s => s[k]? = some (.dicF od kvs m) ∧ P.bk e (s.set k (.dic m)), fun e s => s[k]? = some (.dicF od kvs m) ∧ P.ct e (s.set k (.dic m)), fun _ _ _ => False⟩) : Ws K W (tLock t) es st P := .mk fun {G H ρ σ D} S T kk => by
  have hlen : k < ρ.length := by
    rw [S.len]
    exact (List.getElem?_eq_some_iff.mp hk).1
  have hr : ρ[k]? = some ρ[k] := List.getElem?_eq_getElem hlen
  generalize ρ[k] = p at hr
  obtain ⟨kvs, hp, hm⟩ := S.ob k _ p hk hr
  refine ⟨p, .dT kvs, hp, True.intro, fun od => ?_⟩
  obtain ⟨S1, m1⟩ := S.set (u := .frz od (.dT kvs)) (o := .dicF od kvs m) hr True.intro (fun q z => by rw [hp] at z; cases z) ⟨upd_same, hm⟩
  have open' : ∀ {G' H' : Hp} {ρ' : List Addr} {s : List Ob}, s[k]? = some (.dicF od kvs m) → Mv G (upd H p (.frz od (.dT kvs))) ρ G' H' ρ' → Sh K G' H' ρ' s → H' p = some (.frz od (.dT kvs)) ∧ Mv G H ρ G' (upd H' p (.dT kvs)) ρ' ∧ Sh K G' (upd H' p (.dT kvs)) ρ' (s.set k (.dic m)) := fun {G' H' ρ' s} hs mm S' => by
    have hr' := pre_get mm.pre hr
    obtain ⟨hp', hm'⟩ := S'.ob k _ p hs hr'
    obtain ⟨S2, m2⟩ := S'.set (u := .dT kvs) (o := .dic m) hr' True.intro (fun q z => by rw [hp'] at z; cases z) ⟨kvs, upd_same, hm'⟩
    exact ⟨hp', (m1.trans mm).trans m2, S2⟩
  refine (h od kvs).run S1 (T.mv m1) ⟨?_, ?_, ?_, ?_, ?_⟩
  · rintro G' H' ρ' σ' e s ⟨hs, hn⟩ mm S' T'
    obtain ⟨a, b, c⟩ := open' hs mm S'
    exact ⟨a, kk.nx _ _ _ _ _ _ hn b c T'⟩
  · rintro G' H' ρ' σ' e s ⟨hs, hn⟩ mm S' T'
    obtain ⟨a, b, c⟩ := open' hs mm S'
    exact ⟨a, kk.bk _ _ _ _ _ _ hn b c T'⟩
  · rintro G' H' ρ' σ' e s ⟨hs, hn⟩ mm S' T'
    obtain ⟨a, b, c⟩ := open' hs mm S'
    exact ⟨a, kk.ct _ _ _ _ _ _ hn b c T'⟩
  · rintro v G' H' ρ' r s ⟨hs, hn, x, rfl⟩ mm S' hv
    obtain ⟨a, b, c⟩ := open' hs mm S'
    exact ⟨a, kk.rt v _ _ _ _ _ hn b c hv⟩
  · exact fun _ _ _ _ _ _ _ z => z.elim
theorem ei_keys {k : Nat} {od : Obj} {kvs : List (List Key × V)} (h : Ev K te es st st1 (.ob k)) (hk : st1[k]? = some (.dicF od kvs m)) : EvI K (iKeys te) es st st1 (fun s => s[k]? = some (.dicF od kvs m)) (m.map fun b => It.dat (pD b.1)) := .mk fun {G H ρ σ} S T {R} q => h.run S T fun v G1 H1 ρ1 m1 S1 hv => by
  obtain ⟨p, rfl, hr, hp, hm⟩ := ob_at S1 hv hk
  have hl := dm_len hm
  refine ⟨p, od, rfl, .inr ⟨kvs, hp, q _ G1 H1 ρ1 m1 S1 ⟨fun X i G' H' ρ' s o mm S' z hi => ?_, fun X i v G' H' H'' ρ' s o mm S' z hi y => ?_, fun X G' H' ρ' s o mm S' z => ?_⟩⟩⟩
  · obtain ⟨hp', _⟩ := S'.ob k _ p z (pre_get mm.pre hr)
    rw [List.length_map] at hi
    exact ⟨hp', by omega⟩
  · obtain ⟨hp', hm'⟩ := S'.ob k _ p z (pre_get mm.pre hr)
    obtain ⟨e1, ky, v', q, hkq, rfl, hq⟩ := y
    obtain ⟨b, hb, rfl, _⟩ := dm_at hm' hkq
    exact ⟨e1, .dat (pD b.1), by rw [List.getElem?_map, hb]; rfl, key_dq S' hq⟩
  · obtain ⟨hp', _⟩ := S'.ob k _ p z (pre_get mm.pre hr)
    rw [List.length_map]
    exact ⟨hp', by omega⟩
theorem ev_listD {k : Nat} (h : Ev K te es st st1 (.ob k)) (hk : st1[k]? = some (.dic m)) : Ev K (tCB (fun xs H Q => ∃ d kvs, xs = [V.ref d] ∧ Rd H d (.dT kvs) ∧ ∀ p bs, H p = none → IsKeys H kvs bs → Q (.ref p) (upd H p (.lst (bs.map V.ref)))) (tCons te tNil)) es st st1 (.fr (.lst (m.map fun b => It.dat (pD b.1)))) := .mk fun {G H ρ σ} S T {Q} q => h.run S T fun v G1 H1 ρ1 m1 S1 hv => by
  obtain ⟨p, rfl, hr, kvs, hp, hm⟩ := ob_at S1 hv hk
  refine ⟨p, kvs, rfl, .inl hp, fun r bs hr0 hb => ?_⟩
  obtain ⟨S2, m2⟩ := S1.priv (o := .lst (bs.map V.ref)) True.intro hr0
  refine q _ _ _ _ (m1.trans m2) S2 (fr_lst S1 hr0 (h0_of m1 hr0) ?_)
  clear q hk hp S2 m2 hr
  induction hm generalizing bs with
  | nil => cases hb; exact .nil
  | @cons a b l r' hab t ih =>
    cases hb with
    | cons h1 h2 => exact .cons (key_dq S1 (by rw [← hab.1]; exact h1)) (ih _ h2)
theorem ev_lenD {k : Nat} (h : Ev K te es st st1 (.ob k)) (hk : st1[k]? = some (.dic m)) : Ev K (tCB rLenT (tCons te tNil)) es st st1 (.dat (.int (m.length : Int))) := .mk fun {G H ρ σ} S T {Q} q => h.run S T fun v G1 H1 ρ1 m1 S1 hv => by
  obtain ⟨p, rfl, hr, kvs, hp, hm⟩ := ob_at S1 hv hk
  exact ⟨p, kvs, rfl, hp, q _ G1 H1 ρ1 m1 S1 (by rw [dm_len hm]; exact Dq.int _)⟩
theorem eb_inD {k : Nat} {p : P2} (ha : Ev K ta es st st1 (.dat (pD p))) (hb : Ev K tb es st1 st2 (.ob k)) (hk : st2[k]? = some (.dic m)) : EvB K (tB (tDIn ta tb)) es st st2 (m.lookup p).isSome := .mk fun {G H ρ σ} S T {Q} q =>
  ha.run S T fun u G1 H1 ρ1 m1 S1 hu => hb.run S1 (T.mv m1) fun v G2 H2 ρ2 m2 S2 hv => by
    obtain ⟨a, rfl, hr, kvs, hp, hm⟩ := ob_at S2 hv hk
    obtain ⟨b, rfl, hb⟩ := key_at (Dq.up hu m2.ex)
    refine ⟨a, valV kvs (pk p), rfl, DGet.t hp (S2.ex _ _ hb), _, rfl, ?_⟩
    have e : (valV kvs (pk p)).isSome = (m.lookup p).isSome := by
      rcases val_at hm p with ⟨z, z2⟩ | ⟨y, w, h1, h2, _⟩
      · rw [z, z2]
        rfl
      · rw [h1, h2]
        rfl
    rw [e]
    exact q G2 H2 ρ2 (m1.trans m2) S2
theorem eb_notInD {k : Nat} {p : P2} (ha : Ev K ta es st st1 (.dat (pD p))) (hb : Ev K tb es st1 st2 (.ob k)) (hk : st2[k]? = some (.dic m)) : EvB K (tB (tDNotIn ta tb)) es st st2 (!(m.lookup p).isSome) := .mk fun {G H ρ σ} S T {Q} q =>
  ha.run S T fun u G1 H1 ρ1 m1 S1 hu => hb.run S1 (T.mv m1) fun v G2 H2 ρ2 m2 S2 hv => by
    obtain ⟨a, rfl, hr, kvs, hp, hm⟩ := ob_at S2 hv hk
    obtain ⟨b, rfl, hb⟩ := key_at (Dq.up hu m2.ex)
    refine ⟨a, valV kvs (pk p), rfl, DGet.t hp (S2.ex _ _ hb), _, rfl, ?_⟩
    have e : (valV kvs (pk p)).isSome = (m.lookup p).isSome := by
      rcases val_at hm p with ⟨z, z2⟩ | ⟨y, w, h1, h2, _⟩
      · rw [z, z2]
        rfl
      · rw [h1, h2]
        rfl
    rw [e]
    exact q G2 H2 ρ2 (m1.trans m2) S2
end
end Pv

/-! second make: instances, lists that change, exceptions that are caught -/
namespace Pv
open PySem PySem.Spec L2
open Evl (Ex sz_of sz_lt)
open PyProof.Rows (envOfC)
section
variable {K : PySem.W.Frag} {es : Es} {st st1 st2 st3 : List Ob} {ta tb te : TE} {tc : TT} {t u : TS} {d e : PyData} {ds : List PyData} {x y : It} {xs ys : List It} {r : Rv} {W : WE} {E : XK} {P : Post} {α : Type} {args : α → List It} {pre : α → Prop} {stf : α → List Ob} {out : α → Out}
/-! calls within a try -/
theorem ev_callS {ts : TA} {EE : L2.St → XK} (a : α) (h : EvA K ts es st (stf a) (args a)) (hp : pre a) (ho : out a = .ret r st2) : Ev K (tCallS (spV K args pre stf out) EE ts) es st st2 r := .mk fun {G H ρ σ} S T {Q} q =>
  h.run S T fun vs G1 H1 ρ1 m1 S1 hv => ⟨a, G1, ρ1, hp, S1, hv, by
    rw [ho]
    exact fun v G2 H2 ρ2 m2 S2 hr => q v G2 H2 ρ2 (m1.trans m2) S2 (hr.back m1)⟩
theorem ex_callS {ts : TA} {C : Addr} (a : α) (h : EvA K ts es st (stf a) (args a)) (hp : pre a) (ho : out a = .exc C st2) : ExC K W (tCallS (spV K args pre stf out) (fun σ cls d H => W cls d σ H) ts) es st C st2 := .mk fun {G H ρ σ} S T q {Q} =>
  h.run S T fun vs G1 H1 ρ1 m1 S1 hv => ⟨a, G1, ρ1, hp, S1, hv, by
    rw [ho]
    exact fun G2 H2 ρ2 m2 S2 => q G2 H2 ρ2 (m1.trans m2) S2⟩
/-! an exception under way, in a statement -/
theorem w_seqX (h : Ws K W t es st P) : Ws K W (tSeq t u) es st { P with nx := fun _ _ => False } → Ws K W (tSeq t u) es st P := fun h2 => .mk fun {G H ρ σ D} S T k => h2.run S T ⟨fun _ _ _ _ _ _ z => z.elim, k.bk, k.ct, k.rt, k.ex⟩
/-- try: body, except c: suite -/
theorem w_try {c : Value} {ts : Addr → Value → Option Addr → TS} {tb : WE → TS} {Wout : WE} (h : ∀ W', Ws K W' (tb W') es st ⟨P.nx, P.rt, P.bk, P.ct, fun C e s => (PySem.W.exmOne K (.ref C) c = some true ∧ ∀ a, Ws K Wout (ts a (.ref C) none) e s P) ∨ (PySem.W.exmOne K (.ref C) c = some false ∧ P.ex C e s)⟩) :
    Ws K Wout (fun D σ H => tb (wOnly K c ts Wout D) D σ H) es st P := .mk fun {G H ρ σ D} S T k =>
  (h _).run S T ⟨k.nx, k.bk, k.ct, k.rt, fun G' H' ρ' σ' es' C s hx m S' T' => by
    rcases hx with ⟨e1, hs⟩ | ⟨e1, hs⟩
    · exact ⟨true, e1, fun _ a ha => (hs a).run S' T' (k.mono m), fun z => nomatch z⟩
    · exact ⟨false, e1, fun z => (nomatch z), fun _ => k.ex _ _ _ _ _ _ _ hs m S' T'⟩⟩
/-! instances -/
theorem ev_make {ts : TA} {C : Addr} (a : α) (h : EvA K ts es st st1 xs) (hst : stf a = st1 ++ [.ins C []]) (hx : args a = .ob st1.length :: xs) (hp : pre a) (ho : out a = .ret (.dat .none) st2) : Ev K (tMake C (spV K args pre stf out) [] E ts) es st st2 (.ob st1.length) := .mk fun {G H ρ σ} S T {Q} q =>
  h.run S T fun vs G1 H1 ρ1 m1 S1 hv => by
    intro p dx hp0 hdx ne
    obtain ⟨Sa, ma⟩ := S1.priv (o := .own p) True.intro hdx
    have hp1 : upd H1 dx (.own p) p = none := by
      rw [upd_ne (Ne.symm ne)]
      exact hp0
    obtain ⟨Sb, mb⟩ := Sa.priv (o := .ins C dx []) True.intro hp1
    have gp : G1 p = none := fresh_back S1.ex hp0
    have gd : G1 dx = none := fresh_back S1.ex hdx
    have out' : ∀ q, H1 q = none → q ∉ ρ1 := fun q hq z => by
      obtain ⟨_, o, ho⟩ := S1.pr q z
      rw [hq] at ho
      cases ho
    have pr : ρ1 <+: ρ1 ++ [p] := List.prefix_append _ _
    have hd2 : upd (upd H1 dx (.own p)) p (.ins C dx []) dx = some (.own p) := by
      rw [upd_ne ne, upd_same]
    have Sc : Sh K G1 (upd (upd H1 dx (.own p)) p (.ins C dx [])) (ρ1 ++ [p]) (st1 ++ [.ins C []]) := Sb.store gp (out' p hp0) ⟨_, upd_same⟩ (fun q z => by rw [upd_same] at z; cases z)
      ⟨dx, [], upd_same, hd2, gd, fun z => by
        rcases List.mem_append.mp z with z | z
        · exact out' dx hdx z
        · exact ne (List.mem_singleton.mp z), .nil⟩
    have mab := ma.trans mb
    have mc : Mv G1 H1 ρ1 G1 (upd (upd H1 dx (.own p)) p (.ins C dx [])) (ρ1 ++ [p]) := by
      refine ⟨Ex.refl _, pr, fun b o h1 h2 h3 => ?_, mab.al, fun b h1 h2 => ?_⟩
      · obtain ⟨b1, b2, _⟩ := mab.fm b o h1 h2 h3
        refine ⟨b1, b2, fun z => ?_⟩
        rcases List.mem_append.mp z with z | z
        · exact h3 z
        · rw [List.mem_singleton.mp z, hp0] at h1
          cases h1
      · rcases List.mem_append.mp h1 with z | z
        · exact absurd z h2
        · rw [List.mem_singleton.mp z]
          exact hp0
    have hr : (ρ1 ++ [p])[st1.length]? = some p := by
      rw [← S1.len, List.getElem?_append_right (Nat.le_refl _), Nat.sub_self]
      rfl
    refine ⟨a, G1, ρ1 ++ [p], hp, by rw [hst]; exact Sc, ?_, ?_⟩
    · rw [List.append_nil, hx]
      exact .cons ⟨p, rfl, hr⟩ (hv.up (Ex.refl _) pr)
    · rw [ho]
      exact fun v G2 H2 ρ2 m2 S2 hv2 => ⟨dq_non hv2, q _ G2 H2 ρ2 ((m1.trans mc).trans m2) S2 ⟨p, rfl, pre_get m2.pre hr⟩⟩
def putFs (f : Str) (x : It) : List (Str × It) → List (Str × It)
  | [] => [(f, x)]
  | (g, y) :: r => if g = f then (g, x) :: r else (g, y) :: putFs f x r
theorem fput {G : Hp} {ρ : List Addr} {f : Str} {v : V} {fv : List (Str × V)} {fs : List (Str × It)} (h : Paired (fun (a : Str × V) (b : Str × It) => a.1 = b.1 ∧ ItAt K G ρ a.2 b.2) fv fs) (hx : ItAt K G ρ v x) : Paired (fun (a : Str × V) (b : Str × It) => a.1 = b.1 ∧ ItAt K G ρ a.2 b.2) (putF f v fv) (putFs f x fs) := by
  induction h with
  | nil => exact .cons ⟨rfl, hx⟩ .nil
  | @cons a b l m hab tt ih =>
    obtain ⟨a1, a2⟩ := a
    obtain ⟨b1, b2⟩ := b
    obtain ⟨e1, e2⟩ := hab
    have e1 : a1 = b1 := e1
    subst e1
    unfold putF putFs
    by_cases z : a1 = f
    · rw [if_pos z, if_pos z]
      exact .cons ⟨rfl, hx⟩ tt
    · rw [if_neg z, if_neg z]
      exact .cons ⟨rfl, e2⟩ ih
/-- o.f = e -/
theorem w_fld {k : Nat} {C : Addr} {f : Str} {fs : List (Str × It)} (hv : Ev K te es st st1 (.it x)) (h0 : Ev K ta es st1 st2 (.ob k)) (hk : st2[k]? = some (.ins C fs)) (c : Cls K C) (n : NoAttr K C f) (hz : fs.length < 1000) (hn : P.nx es (st2.set k (.ins C (putFs f x fs)))) : Ws K W (sFld K ta te f) es st P := .mk fun {G H ρ σ D} S T kk =>
  hv.run S T fun v G1 H1 ρ1 m1 S1 hx => h0.run S1 (T.mv m1) fun u G2 H2 ρ2 m2 S2 hu => by
    obtain ⟨p, rfl, hr, dx, fv, hp, hd, gd, nd, hf⟩ := ob_at S2 hu hk
    have hl : fv.length = fs.length := by
      clear hn hk hz hp
      induction hf with
      | nil => rfl
      | cons _ _ ih => rw [List.length_cons, List.length_cons, ih]
    have ne : dx ≠ p := fun z => by
      rw [z, hp] at hd
      cases hd
    refine ⟨p, C, dx, fv, rfl, hp, c, n, by rw [hl]; exact hz, ?_⟩
    obtain ⟨S3, m3⟩ := S2.set (u := .ins C dx (putF f v fv)) (o := .ins C (putFs f x fs)) hr True.intro (fun q z => by rw [hp] at z; cases z) ⟨dx, _, upd_same, by rw [upd_ne ne]; exact hd, gd, nd, fput hf (ItAt.up m2.ex m2.pre hx)⟩
    exact kk.nx _ _ _ _ _ _ hn ((m1.trans m2).trans m3) S3 (((T.mv m1).mv m2).mv m3)
/-! lists that change -/
theorem its_dropLast {G : Hp} {ρ : List Addr} {vs : List V} (h : Its K G ρ vs xs) : Its K G ρ vs.dropLast xs.dropLast := by
  induction h with
  | nil => exact .nil
  | @cons a b l m hab tt ih =>
    cases tt with
    | nil => exact .nil
    | cons h1 h2 => exact .cons hab ih
/-- xs.pop() -/
theorem ev_pop {k : Nat} (h : Ev K ta es st st1 (.ob k)) (hk : st1[k]? = some (.lst (xs ++ [x]))) : Ev K (tBM0 K "list" rPop ta) es st (st1.set k (.lst xs)) (.it x) := .mk fun {G H ρ σ} S T {Q} q =>
  h.run S T fun v G1 H1 ρ1 m1 S1 hv => by
    obtain ⟨p, rfl, hr, vs, hp, hx⟩ := ob_at S1 hv hk
    have hl := its_len hx
    rw [List.length_append] at hl
    have hl : vs.length = xs.length + 1 := hl
    obtain ⟨w, hw, hwx⟩ := its_at hx (i := xs.length) (x := x) (by rw [List.getElem?_append_right (Nat.le_refl _), Nat.sub_self]; rfl)
    refine ⟨.inl ⟨rfl, vs, .inl (.inl hp)⟩, p, vs, w, rfl, rfl, hp, by rw [hl]; exact hw, ?_⟩
    have hd := its_dropLast hx
    rw [List.dropLast_concat] at hd
    obtain ⟨S2, m2⟩ := S1.set (u := .lst vs.dropLast) (o := .lst xs) hr True.intro (fun q z => by rw [hp] at z; cases z) ⟨_, upd_same, hd⟩
    exact q w G1 _ ρ1 (m1.trans m2) S2 hwx
theorem its_app {G : Hp} {ρ : List Addr} {vs ws : List V} (h : Its K G ρ vs xs) (h' : Its K G ρ ws ys) : Its K G ρ (vs ++ ws) (xs ++ ys) := by
  induction h with
  | nil => exact h'
  | cons a b ih => exact .cons a ih
/-- xs.extend(ys), ys a new list -/
theorem w_extendF {k : Nat} (h0 : Ev K ta es st st1 (.ob k)) (h01 : ∃ ys, st1[k]? = some (.lst ys)) (h : Ev K te es st1 st2 (.fr (.lst ys))) (hk : st2[k]? = some (.lst xs)) (hz : xs.length + ys.length ≤ 100000) (hn : P.nx es (st2.set k (.lst (xs ++ ys)))) : Ws K W (tDrop (tBM K "list" rExtend ta (tCons te tNil))) es st P := .mk fun {G H ρ σ D} S T kk =>
  h0.run S T fun u G1 H1 ρ1 m1 S1 hu => by
    obtain ⟨zs, hy⟩ := h01
    obtain ⟨p, rfl, hr, us, hp1, _⟩ := ob_at S1 hu hy
    refine ⟨.inl ⟨rfl, us, .inl (.inl hp1)⟩, h.run S1 (T.mv m1) fun v G2 H2 ρ2 m2 S2 ⟨b, e, _, _, _, _, _, ws, hb, hw⟩ => ?_⟩
    subst e
    have hr2 := pre_get m2.pre hr
    obtain ⟨vs, hp, hx⟩ := S2.ob k _ p hk hr2
    refine ⟨p, b, vs, ws, rfl, rfl, hp, hb, sz_of (by rw [its_len hx, its_len hw]; exact hz), ?_⟩
    obtain ⟨S3, m3⟩ := S2.set (u := .lst (vs ++ ws)) (o := .lst (xs ++ ys)) hr2 True.intro (fun q z => by rw [hp] at z; cases z) ⟨_, upd_same, its_app hx hw⟩
    exact kk.nx _ _ _ _ _ _ hn ((m1.trans m2).trans m3) S3 (((T.mv m1).mv m2).mv m3)
theorem its_set {G : Hp} {ρ : List Addr} {vs : List V} {v : V} (n : Nat) (h : Its K G ρ vs xs) (hv : ItAt K G ρ v x) : Its K G ρ (vs.set n v) (xs.set n x) := by
  induction h generalizing n with
  | nil => exact .nil
  | cons a b ih =>
    cases n with
    | zero => exact .cons hv b
    | succ n => exact .cons a (ih n)
/-- xs[i] = e -/
theorem w_setL {k n : Nat} {z : Int} (hv : Ev K te es st st1 (.it x)) (h0 : Ev K ta es st1 st2 (.ob k)) (h : Ev K tb es st2 st3 (.dat (.int z))) (hk : st3[k]? = some (.lst xs)) (hz : ixN xs.length z = some n) (hn : P.nx es (st3.set k (.lst (xs.set n x)))) : Ws K W (tAsg te (gSub ta tb rSetL)) es st P := .mk fun {G H ρ σ D} S T kk =>
  hv.run S T fun v G1 H1 ρ1 m1 S1 hx => h0.run S1 (T.mv m1) fun u G2 H2 ρ2 m2 S2 hu => h.run S2 ((T.mv m1).mv m2) fun y G3 H3 ρ3 m3 S3 hy => by
    obtain ⟨p, rfl, hr⟩ := hu
    have hr3 := pre_get m3.pre hr
    obtain ⟨vs, hp, hvs⟩ := S3.ob k _ p hk hr3
    refine ⟨p, vs, z, n, rfl, dq_int hy, hp, by rw [its_len hvs]; exact hz, ?_⟩
    obtain ⟨S4, m4⟩ := S3.set (u := .lst (vs.set n v)) (o := .lst (xs.set n x)) hr3 True.intro (fun q z => by rw [hp] at z; cases z) ⟨_, upd_same, its_set n hvs (ItAt.up (m2.ex.trans m3.ex) (m2.pre.trans m3.pre) hx)⟩
    exact kk.nx _ _ _ _ _ _ hn (((m1.trans m2).trans m3).trans m4) S4 ((((T.mv m1).mv m2).mv m3).mv m4)
/-! targets with parts -/
structure Tg (K : PySem.W.Frag) (g : TG) (x : It) (es es' : Es) : Prop where
  run : ∀ {G H : Hp} {ρ : List Addr} {σ : L2.St} {v : V} {st : List Ob}, Sh K G H ρ st → Se K G ρ σ es → ItAt K G ρ v x → ∀ {Q : L2.St → Hp → Prop}, (∀ σ', Se K G ρ σ' es' → Q σ' H) → g v σ H Q
theorem tg_name {j : Nat} : Tg K (gName j) x es (es.set j (.it x)) := .mk fun {G H ρ σ v st} S T hv {Q} q => q _ (T.put j ⟨v, rfl, hv⟩)
structure TgA (K : PySem.W.Frag) (g : TGs) (xs : List It) (es es' : Es) : Prop where
  run : ∀ {G H : Hp} {ρ : List Addr} {σ : L2.St} {vs : List V} {st : List Ob}, Sh K G H ρ st → Se K G ρ σ es → Its K G ρ vs xs → ∀ {Q : L2.St → Hp → Prop}, (∀ σ', Se K G ρ σ' es' → Q σ' H) → g vs σ H Q
theorem tga_nil : TgA K gNil [] es es := .mk fun {G H ρ σ vs st} S T hv {Q} q => by
  cases hv
  exact ⟨rfl, q _ T⟩
theorem tga_cons {g : TG} {gs : TGs} {e1 e2 : Es} (h : Tg K g x es e1) (h2 : TgA K gs xs e1 e2) : TgA K (gCons g gs) (x :: xs) es e2 := .mk fun {G H ρ σ vs st} S T hv {Q} q => by
  cases hv with
  | cons a b => exact ⟨_, _, rfl, h.run S T a fun σ' T' => h2.run S T' b q⟩
theorem tg_tup {gs : TGs} {n : Nat} {e1 : Es} (h : TgA K gs (ds.map It.dat) es e1) (hn : ds.length = n) : Tg K (gTup K n gs) (.dat (.tuple ds)) es e1 := .mk fun {G H ρ σ v st} S T hv {Q} q => by
  obtain ⟨p, vs, rfl, hs, _, hd⟩ := dq_tup hv
  have l := its_len (ρ := ρ) (its_dqa hd)
  rw [List.length_map] at l
  exact ⟨p, vs, rfl, Evl.ex_t S.ex hs, by rw [l]; exact hn, h.run S T (its_dqa hd) q⟩
theorem w_asgT {g : TG} {e1 : Es} (h : Ev K te es st st1 (.it x)) (ht : Tg K g x es e1) (hn : P.nx e1 st1) : Ws K W (tAsg te g) es st P := .mk fun {G H ρ σ D} S T k =>
  h.run S T fun v G1 H1 ρ1 m1 S1 hv => ht.run S1 (T.mv m1) hv fun σ' T' => k.nx _ _ _ _ _ _ hn m1 S1 T'
end
end Pv

/-! second make: two sources; sets of places; walked backward; tables -/
namespace Pv
open PySem PySem.Spec L2
open Evl (Ex sz_of sz_lt)
open Pu (tSc2 inLoop inTurn rSortP rk2 Pr2 len_sub take_ex eq_of_rk rk2_inj)
open PyProof.Rows (envOfC)
section
variable {K : PySem.W.Frag} {PP : Program} {w : World} {es : Es} {st st1 st2 st3 : List Ob} {ta tb te tl : TE} {tc : TT} {t u : TS} {d e : PyData} {ds : List PyData} {x y : It} {xs ys : List It} {r : Rv} {W : WE} {P : Post}
/-- a list from two sources -/
theorem ev_lc2 {α β : Type} {wi wi1 : TI} {j j1 : Nat} {vs vs1 : List Nat} {ok : List Ob → Prop} {ok1 : α → List Ob → Prop} {as : List α} {enc : α → It} {enc1 : β → It} (bs : α → List β) (g : α → β → PyData) (h : EvI K wi es st st1 ok (as.map enc)) (hok : ok st1) (hz : (as.flatMap fun d => (bs d).map (g d)).length ≤ 50000)
    (hj : ∀ σ x, wipe ((wipe σ vs).set j x) vs = wipe σ vs) (hj1 : ∀ σ x, wipe ((wipe σ vs1).set j1 x) vs1 = wipe σ vs1)
    (h1 : ∀ d ∈ as, EvI K wi1 ((wipeE es vs).set j (.it (enc d))) st1 st1 (ok1 d) ((bs d).map enc1)) (hok1 : ∀ d ∈ as, ok1 d st1)
    (he : ∀ d ∈ as, ∀ x ∈ bs d, Ev K te ((wipeE ((wipeE es vs).set j (.it (enc d))) vs1).set j1 (.it (enc1 x))) st1 st1 (.dat (g d x))) : Ev K (tLc2 wi (gName j) tYes wi1 (gName j1) tYes te vs vs1) es st st1 (.fr (.lst ((as.flatMap fun d => (bs d).map (g d)).map It.dat))) := .mk fun {G H ρ σ} S T {Q} q =>
  h.run S T fun J G1 H1 ρ1 m1 S1 hJ D hD => by
    have la : (as.map enc).length = as.length := List.length_map _
    obtain ⟨S1', m1'⟩ := S1.priv (o := .lst []) True.intro hD
    have nD : D ∉ ρ1 := fun z => by
      obtain ⟨_, u, hu⟩ := S1.pr D z
      rw [hD] at hu
      cases hu
    refine ⟨fun i m H' => m = as.length - i ∧ i ≤ as.length ∧ Bld K G1 H1 ρ1 D st1 H' ((as.take i).flatMap fun d => (bs d).map (g d)), ⟨as.length, by simp, Nat.zero_le _, G1, ρ1, m1', S1', fresh_back S1.ex hD, nD, [], upd_same, .nil⟩, ?_⟩
    rintro i m H' ⟨rfl, hi, G', ρ', mm, S', gD, nD', acc, ha, hda⟩
    by_cases hlt : i < as.length
    · refine .inr ⟨hJ.go xNo i _ _ _ st1 old_no mm.mw S' hok (by rw [la]; exact hlt), fun H' => i + 1 ≤ as.length ∧ Bld K G1 H1 ρ1 D st1 H' ((as.take (i + 1)).flatMap fun d => (bs d).map (g d)), fun H3 w => ⟨as.length - (i + 1), by omega, rfl, w⟩, fun v H3 y => ?_⟩
      obtain ⟨rfl, x, hxi, hx⟩ := hJ.yld xNo i v _ _ _ _ st1 old_no mm.mw S' hok (by rw [la]; exact hlt) y
      rw [List.getElem?_map] at hxi
      obtain ⟨a, hai, rfl⟩ := Option.map_eq_some_iff.mp hxi
      have hm : a ∈ as := List.mem_of_getElem? hai
      have T' := ((T.mv (m1.trans mm)).wipe vs).put j (v := some v) (e := .it (enc a)) ⟨v, rfl, hx⟩
      have tk : (as.take (i + 1)).flatMap (fun d => (bs d).map (g d)) = (as.take i).flatMap (fun d => (bs d).map (g d)) ++ (bs a).map (g a) := by
        rw [List.take_add_one, hai, List.flatMap_append]
        show _ ++ List.flatMap _ [a] = _
        rw [List.flatMap_singleton]
      have tot : ((as.take (i + 1)).flatMap (fun d => (bs d).map (g d))).length ≤ 50000 := by
        refine Nat.le_trans ?_ hz
        conv => rhs; rw [← List.take_append_drop (i + 1) as, List.flatMap_append, List.length_append]
        exact Nat.le_add_right _ _
      rw [tk, List.length_append, List.length_map] at tot
      refine ⟨hj σ (some v), ?_⟩
      rw [Pu.tYes_at, if_pos rfl]
      refine (h1 a hm).run S' T' fun J1 G4 H4 ρ4 m4 S4 hJ1 => ?_
      have lb : ((bs a).map enc1).length = (bs a).length := List.length_map _
      obtain ⟨a4, g4, n4⟩ := m4.fm D _ ha gD nD'
      have T4 := T'.mv m4
      have old : Old (fun a => a = D) H3 := fun a z => ⟨.lst acc, by
        have z : a = D := z
        rw [z]
        exact ha⟩
      refine ⟨fun k n H5 => n = (bs a).length - k ∧ k ≤ (bs a).length ∧ ∃ G5 ρ5, Mv G1 H1 ρ1 G5 H5 ρ5 ∧ Mw (fun a => a = D) G4 H4 ρ4 G5 H5 ρ5 ∧ Sh K G5 H5 ρ5 st1 ∧ G5 D = none ∧ D ∉ ρ5 ∧ ∃ acc2, H5 D = some (.lst acc2) ∧ DqAll K G5 acc2 ((as.take i).flatMap (fun d => (bs d).map (g d)) ++ ((bs a).take k).map (g a)),
        ⟨(bs a).length, by simp, Nat.zero_le _, G4, ρ4, mm.trans m4, Mv.refl.mw, S4, g4, n4, acc, a4, ?_⟩, ?_⟩
      · show DqAll K G4 acc (_ ++ [])
        rw [List.append_nil]
        exact hda.up m4.ex
      rintro k n H5 ⟨rfl, hk, G5, ρ5, m15, mw, S5, g5, n5, acc2, a5, hd5⟩
      by_cases hlt1 : k < (bs a).length
      · refine .inr ⟨hJ1.go _ k _ _ _ st1 old mw S5 (hok1 a hm) (by rw [lb]; exact hlt1), fun H5 => k + 1 ≤ (bs a).length ∧ ∃ G5 ρ5, Mv G1 H1 ρ1 G5 H5 ρ5 ∧ Mw (fun a => a = D) G4 H4 ρ4 G5 H5 ρ5 ∧ Sh K G5 H5 ρ5 st1 ∧ G5 D = none ∧ D ∉ ρ5 ∧ ∃ acc2, H5 D = some (.lst acc2) ∧ DqAll K G5 acc2 ((as.take i).flatMap (fun d => (bs d).map (g d)) ++ ((bs a).take (k + 1)).map (g a)), fun H6 w => ⟨(bs a).length - (k + 1), by omega, rfl, w⟩, fun v1 H6 y1 => ?_⟩
        obtain ⟨rfl, x1, hxk, hx1⟩ := hJ1.yld _ k v1 _ _ _ _ st1 old mw S5 (hok1 a hm) (by rw [lb]; exact hlt1) y1
        rw [List.getElem?_map] at hxk
        obtain ⟨b1, hbk, rfl⟩ := Option.map_eq_some_iff.mp hxk
        have hm1 : b1 ∈ bs a := List.mem_of_getElem? hbk
        have T5 := ((T4.up mw.ex mw.pre).wipe vs1).put j1 (v := some v1) (e := .it (enc1 b1)) ⟨v1, rfl, hx1⟩
        refine ⟨hj1 _ (some v1), ?_⟩
        rw [Pu.tYes_at, if_pos rfl]
        refine (he a hm b1 hm1).run S5 T5 fun z G7 H7 ρ7 m7 S7 hz' => ?_
        obtain ⟨a7, g7, n7⟩ := m7.fm D _ a5 g5 n5
        have lacc : acc2.length < 100000 := by
          have l := its_len (ρ := ρ5) (its_dqa hd5)
          rw [List.length_map, List.length_append, List.length_map, List.length_take] at l
          have : min k (bs a).length ≤ (bs a).length := Nat.min_le_right _ _
          omega
        refine ⟨acc2, a7, sz_lt lacc, hlt1, G7, ρ7, (m15.trans m7).poke hD a7, (mw.trans m7).poke rfl, S7.poke g7 n7 a7 (fun q z => nomatch z) True.intro, g7, n7, acc2 ++ [z], upd_same, ?_⟩
        rw [List.take_add_one, hbk, List.map_append, ← List.append_assoc]
        exact dqa_snoc (hd5.up m7.ex) hz'
      · have ek : k = (bs a).length := by omega
        subst ek
        rw [List.take_length] at hd5
        refine .inl ⟨by rw [← lb]; exact hJ1.stop _ _ _ _ st1 old mw S5 (hok1 a hm), hlt, G5, ρ5, m15, S5, g5, n5, acc2, a5, ?_⟩
        rw [tk]
        exact hd5
    · have e : i = as.length := by omega
      subst e
      rw [List.take_length] at hda
      refine .inl ⟨by rw [← la]; exact hJ.stop xNo _ _ _ st1 old_no mm.mw S' hok, q _ G' H' ρ' (m1.trans mm) S' ⟨D, rfl, m1.al D hD, gD, nD', ⟨_, ha⟩, (fun q z => by rw [ha] at z; cases z), acc, ha, its_dqa hda⟩⟩
/-- a new set of tuples of ints -/
structure EvT (K : PySem.W.Frag) (PP : Program) (w : World) (te : TE) (es : Es) (st st' : List Ob) (ks : List Int → Prop) : Prop where
  run : ∀ {G H : Hp} {ρ : List Addr} {σ : L2.St}, Sh K G H ρ st → Se K G ρ σ es → ∀ {Q : VK}, (∀ D L G' H' ρ', Mv G H ρ G' H' ρ' → Sh K G' H' ρ' st' → H' D = some (SetTO PP w D L) → (∀ q ∈ L, Dq K G' (.ref q.1) (Pu.tupD q.2)) → (∀ k, k ∈ L.map (·.2) ↔ ks k) → Q (.ref D) H') → te σ H Q
structure Gw (K : PySem.W.Frag) (PP : Program) (w : World) (G H : Hp) (D : Addr) (ks : List Int → Prop) : Prop where
  at' : ∃ L, H D = some (SetTO PP w D L) ∧ (∀ q ∈ L, Dq K G (.ref q.1) (Pu.tupD q.2)) ∧ (∀ k, k ∈ L.map (·.2) ↔ ks k) ∧ (L.map (·.2)).Nodup
theorem Gw.as {G H : Hp} {D : Addr} {ks ks' : List Int → Prop} (h : Gw K PP w G H D ks) (e : ∀ k, ks k ↔ ks' k) : Gw K PP w G H D ks' := by
  obtain ⟨L, a, b, c, d⟩ := h.at'
  exact ⟨L, a, b, fun k => (c k).trans (e k), d⟩
theorem dq_sqt {G : Hp} {t : Addr} {k : List Int} (h : Dq K G (.ref t) (Pu.tupD k)) : SqT K G t (k.map V.int) := by
  obtain ⟨p, vs, e, hs, _, hd⟩ := dq_tup h
  cases e
  rw [its_ints (ρ := []) (its_dqa hd)] at hs
  exact hs
theorem dq_ref {G : Hp} {v : V} {k : List Int} (h : Dq K G v (Pu.tupD k)) : ∃ t, v = .ref t := by
  obtain ⟨p, vs, e, _⟩ := dq_tup h
  exact ⟨p, e⟩
theorem et_sc2 {α β : Type} {wi wi1 : TI} {j j1 : Nat} {vs vs1 : List Nat} {ok : List Ob → Prop} {ok1 : α → List Ob → Prop} {as : List α} {enc : α → It} {enc1 : β → It} (bs : α → List β) (f : α → β → List Int) (B : List (List Int)) (hB : B.length < 63) (h : EvI K wi es st st1 ok (as.map enc)) (hok : ok st1)
    (hj : ∀ σ x, wipe ((wipe σ vs).set j x) vs = wipe σ vs) (hj1 : ∀ σ x, wipe ((wipe σ vs1).set j1 x) vs1 = wipe σ vs1)
    (h1 : ∀ d ∈ as, EvI K wi1 ((wipeE es vs).set j (.it (enc d))) st1 st1 (ok1 d) ((bs d).map enc1)) (hok1 : ∀ d ∈ as, ok1 d st1) (hb : ∀ d ∈ as, ∀ x ∈ bs d, f d x ∈ B)
    (he : ∀ d ∈ as, ∀ x ∈ bs d, Ev K te ((wipeE ((wipeE es vs).set j (.it (enc d))) vs1).set j1 (.it (enc1 x))) st1 st1 (.dat (Pu.tupD (f d x)))) : EvT K PP w (tSc2 PP w K wi (gName j) tYes wi1 (gName j1) tYes te vs vs1) es st st1 (fun k => ∃ d ∈ as, ∃ x ∈ bs d, f d x = k) := .mk fun {G H ρ σ} S T {Q} q =>
  h.run S T fun J G1 H1 ρ1 m1 S1 hJ D hD => by
    have la : (as.map enc).length = as.length := List.length_map _
    obtain ⟨S1', m1'⟩ := S1.priv (o := SetTO PP w D []) True.intro hD
    have nD : D ∉ ρ1 := fun z => by
      obtain ⟨_, u, hu⟩ := S1.pr D z
      rw [hD] at hu
      cases hu
    refine ⟨fun i m H' => m = as.length - i ∧ i ≤ as.length ∧ ∃ G' ρ', Mv G1 H1 ρ1 G' H' ρ' ∧ Sh K G' H' ρ' st1 ∧ G' D = none ∧ D ∉ ρ' ∧ Gw K PP w G' H' D (fun k => ∃ d ∈ as.take i, ∃ x ∈ bs d, f d x = k), ⟨as.length, by simp, Nat.zero_le _, G1, ρ1, m1', S1', fresh_back S1.ex hD, nD, [], upd_same, fun q hq => (nomatch hq), fun k => by simp, List.nodup_nil⟩, ?_⟩
    rintro i m H' ⟨rfl, hi, G', ρ', mm, S', gD, nD', hgr⟩
    by_cases hlt : i < as.length
    · refine .inr ⟨hJ.go xNo i _ _ _ st1 old_no mm.mw S' hok (by rw [la]; exact hlt), fun H' => i + 1 ≤ as.length ∧ ∃ G' ρ', Mv G1 H1 ρ1 G' H' ρ' ∧ Sh K G' H' ρ' st1 ∧ G' D = none ∧ D ∉ ρ' ∧ Gw K PP w G' H' D (fun k => ∃ d ∈ as.take (i + 1), ∃ x ∈ bs d, f d x = k), fun H3 w => ⟨as.length - (i + 1), by omega, rfl, w⟩, fun v H3 y => ?_⟩
      obtain ⟨rfl, x, hxi, hx⟩ := hJ.yld xNo i v _ _ _ _ st1 old_no mm.mw S' hok (by rw [la]; exact hlt) y
      rw [List.getElem?_map] at hxi
      obtain ⟨a, hai, rfl⟩ := Option.map_eq_some_iff.mp hxi
      have hm : a ∈ as := List.mem_of_getElem? hai
      have T' := ((T.mv (m1.trans mm)).wipe vs).put j (v := some v) (e := .it (enc a)) ⟨v, rfl, hx⟩
      obtain ⟨L3, a3, b3, c3, d3⟩ := hgr.at'
      refine ⟨hj σ (some v), ?_⟩
      rw [Pu.tYes_at, if_pos rfl]
      refine (h1 a hm).run S' T' fun J1 G4 H4 ρ4 m4 S4 hJ1 => ?_
      have lb : ((bs a).map enc1).length = (bs a).length := List.length_map _
      obtain ⟨a4, g4, n4⟩ := m4.fm D _ a3 gD nD'
      have T4 := T'.mv m4
      have old : Old (fun a => a = D) H3 := fun a z => ⟨SetTO PP w D L3, by
        have z : a = D := z
        rw [z]
        exact a3⟩
      refine ⟨fun k n H5 => n = (bs a).length - k ∧ k ≤ (bs a).length ∧ ∃ G5 ρ5, Mv G1 H1 ρ1 G5 H5 ρ5 ∧ Mw (fun a => a = D) G4 H4 ρ4 G5 H5 ρ5 ∧ Sh K G5 H5 ρ5 st1 ∧ G5 D = none ∧ D ∉ ρ5 ∧ Gw K PP w G5 H5 D (fun z => (∃ d ∈ as.take i, ∃ x ∈ bs d, f d x = z) ∨ ∃ x ∈ (bs a).take k, f a x = z),
        ⟨(bs a).length, by simp, Nat.zero_le _, G4, ρ4, mm.trans m4, Mv.refl.mw, S4, g4, n4, L3, a4, fun q hq => (b3 q hq).up m4.ex, fun k => by rw [c3]; simp, d3⟩, ?_⟩
      rintro k n H5 ⟨rfl, hk, G5, ρ5, m15, mw, S5, g5, n5, hg5⟩
      obtain ⟨L5, a5, b5, c5, nd5⟩ := hg5.at'
      by_cases hlt1 : k < (bs a).length
      · refine .inr ⟨hJ1.go _ k _ _ _ st1 old mw S5 (hok1 a hm) (by rw [lb]; exact hlt1), fun H5 => k + 1 ≤ (bs a).length ∧ ∃ G5 ρ5, Mv G1 H1 ρ1 G5 H5 ρ5 ∧ Mw (fun a => a = D) G4 H4 ρ4 G5 H5 ρ5 ∧ Sh K G5 H5 ρ5 st1 ∧ G5 D = none ∧ D ∉ ρ5 ∧ Gw K PP w G5 H5 D (fun z => (∃ d ∈ as.take i, ∃ x ∈ bs d, f d x = z) ∨ ∃ x ∈ (bs a).take (k + 1), f a x = z), fun H6 w => ⟨(bs a).length - (k + 1), by omega, rfl, w⟩, fun v1 H6 y1 => ?_⟩
        obtain ⟨rfl, x1, hxk, hx1⟩ := hJ1.yld _ k v1 _ _ _ _ st1 old mw S5 (hok1 a hm) (by rw [lb]; exact hlt1) y1
        rw [List.getElem?_map] at hxk
        obtain ⟨b1, hbk, rfl⟩ := Option.map_eq_some_iff.mp hxk
        have hm1 : b1 ∈ bs a := List.mem_of_getElem? hbk
        have T5 := ((T4.up mw.ex mw.pre).wipe vs1).put j1 (v := some v1) (e := .it (enc1 b1)) ⟨v1, rfl, hx1⟩
        refine ⟨hj1 _ (some v1), ?_⟩
        rw [Pu.tYes_at, if_pos rfl]
        refine (he a hm b1 hm1).run S5 T5 fun z G7 H7 ρ7 m7 S7 hz' => ?_
        obtain ⟨a7, g7, n7⟩ := m7.fm D _ a5 g5 n5
        obtain ⟨t, rfl⟩ := dq_ref hz'
        have b7 : ∀ q ∈ L5, Dq K G7 (.ref q.1) (Pu.tupD q.2) := fun q hq => (b5 q hq).up m7.ex
        have few : L5.length ≤ B.length := by
          rw [← List.length_map (f := (·.2)) (as := L5)]
          refine len_sub nd5 fun k hk => ?_
          rcases (c5 k).mp hk with ⟨d', hd', x', hx', rfl⟩ | ⟨x', hx', rfl⟩
          · exact hb d' (List.mem_of_mem_take hd') x' hx'
          · exact hb a hm x' (List.mem_of_mem_take hx')
        refine ⟨t, f a b1, L5, rfl, Evl.ex_t S7.ex (dq_sqt hz'), a7, fun q hq => Evl.ex_t S7.ex (dq_sqt (b7 q hq)), by omega, fun L' e1 e2 => ⟨hlt1, G7, ρ7, (m15.trans m7).poke hD a7, (mw.trans m7).poke rfl, S7.poke g7 n7 a7 (fun q z => nomatch z) True.intro, g7, n7, ?_⟩⟩
        have key : (∀ q ∈ L', Dq K G7 (.ref q.1) (Pu.tupD q.2)) ∧ (∀ k', k' ∈ L'.map (·.2) ↔ k' ∈ L5.map (·.2) ∨ f a b1 = k') ∧ (L'.map (·.2)).Nodup := by
          by_cases c : f a b1 ∈ L5.map (·.2)
          · rw [e1 c]
            exact ⟨b7, fun k' => ⟨.inl, fun z => z.elim id fun z => z ▸ c⟩, nd5⟩
          · have pm := e2 c
            have pm2 := pm.map (·.2)
            refine ⟨fun q hq => ?_, fun k' => ?_, pm2.nodup_iff.mpr (List.nodup_cons.mpr ⟨c, nd5⟩)⟩
            · rcases List.mem_cons.mp (pm.mem_iff.mp hq) with rfl | z
              · exact hz'
              · exact b7 q z
            · rw [pm2.mem_iff, List.map_cons, List.mem_cons]
              exact ⟨fun z => z.elim (fun z => .inr z.symm) .inl, fun z => z.elim .inr fun z => .inl z.symm⟩
        refine ⟨L', upd_same, key.1, fun k' => ?_, key.2.2⟩
        rw [key.2.1, c5, take_ex hbk, or_assoc]
      · have ek : k = (bs a).length := by omega
        subst ek
        refine .inl ⟨by rw [← lb]; exact hJ1.stop _ _ _ _ st1 old mw S5 (hok1 a hm), hlt, G5, ρ5, m15, S5, g5, n5, hg5.as fun z => ?_⟩
        rw [List.take_length, take_ex hai]
    · have e : i = as.length := by omega
      subst e
      obtain ⟨L, a, b, c, nd⟩ := hgr.at'
      rw [List.take_length] at c
      exact .inl ⟨by rw [← la]; exact hJ.stop _ _ _ _ st1 old_no mm.mw S' hok, q D L G' H' ρ' (m1.trans mm) S' a b c⟩
theorem ev_sortP {ks : List Int → Prop} (R : List (List Int)) (h : EvT K PP w te es st st1 ks) (hp : ∀ k, ks k → Pr2 k) (hR : R.Pairwise (fun a b => rk2 a < rk2 b)) (hk : ∀ k, k ∈ R ↔ ks k) : Ev K (tCB (rSortP K PP w) (tCons te tNil)) es st st1 (.fr (.lst ((R.map Pu.tupD).map It.dat))) := .mk fun {G H ρ σ} S T {Q} q =>
  h.run S T fun D L G1 H1 ρ1 m1 S1 hD hL hm => by
    have pr : ∀ z ∈ L, Pr2 z.2 := fun z hz => hp _ ((hm _).mp (List.mem_map.mpr ⟨z, hz, rfl⟩))
    refine ⟨D, L, rfl, hD, fun z hz => ⟨Evl.ex_t S1.ex (dq_sqt (hL z hz)), pr z hz⟩, fun M p pm nd hf pw hpn => ?_⟩
    obtain ⟨S2, m2⟩ := S1.priv (o := .lst (M.map fun q => V.ref q.1)) True.intro hpn
    have eM : M.map (·.2) = R := by
      refine eq_of_rk (List.pairwise_map.mpr ?_) hR fun k => by rw [(pm.map (·.2)).mem_iff, hm, hk]
      have both : M.Pairwise fun q r => rk2 q.2 ≤ rk2 r.2 ∧ q.2 ≠ r.2 := pw.and (List.pairwise_map.mp nd)
      refine both.imp_of_mem fun {a b} ha hb hab => ?_
      have h1 : rk2 a.2 ≠ rk2 b.2 := fun z => hab.2 (rk2_inj (pr a (pm.mem_iff.mp ha)) (pr b (pm.mem_iff.mp hb)) z)
      have h2 := hab.1
      omega
    refine q _ _ _ _ (m1.trans m2) S2 (fr_lst S1 hpn (h0_of m1 hpn) ?_)
    rw [← eM, List.map_map]
    have base : ∀ z ∈ M, Dq K G1 (.ref z.1) (Pu.tupD z.2) := fun z hz => hL z (pm.mem_iff.mp hz)
    clear pm nd hf pw eM S2 m2
    induction M with
    | nil => exact .nil
    | cons z M ih => exact .cons (base z List.mem_cons_self) (ih fun y hy => base y (List.mem_cons_of_mem _ hy))
/-! walked backward -/
theorem it_rev {G H H0 : Hp} {ρ : List Addr} {a : Addr} {vs : List V} (hs : SqL K H a vs) (gs : SqL K G a vs) (hx : Its K G ρ vs xs) : ItOk K G H ρ H0 all (Itv K a vs.length) xs.reverse where
  go := fun X i G' H' ρ' s o m S z hi => by
    rw [List.length_reverse, ← its_len hx] at hi
    exact ⟨hi, vs, _, Evl.ex_l S.ex (Evl.ex_l m.ex gs), List.getElem?_eq_getElem (by omega)⟩
  yld := fun X i v G' H' H'' ρ' s o m S z hi y => by
    obtain ⟨e1, y⟩ := y
    rw [List.length_reverse] at hi
    have hl := its_len hx
    obtain ⟨w, hw, hwx⟩ := its_at (hx.up m.ex m.pre) (i := xs.length - 1 - i) (List.getElem?_eq_getElem (by omega))
    have := y vs (Evl.ex_l S.ex (Evl.ex_l m.ex gs))
    rw [hl, hw] at this
    cases this
    exact ⟨e1, _, by rw [Pu.rev_get hi, List.getElem?_eq_getElem (by omega)], hwx⟩
  stop := fun X G' H' ρ' s o m S z => by
    rw [List.length_reverse, ← its_len hx]
    exact Nat.le_refl _
theorem ei_revL (h : Ev K tl es st st1 (.dat (.list ds))) : EvI K (RT.iRevA K tl) es st st1 all (ds.map It.dat).reverse := .mk fun {G H ρ σ} S T {R} q => h.run S T fun v G1 H1 ρ1 m1 S1 hv => by
  obtain ⟨p, vs, rfl, hs, hd⟩ := dq_lst hv
  exact ⟨p, vs, rfl, .inl ⟨Evl.ex_l S1.ex hs, q _ G1 H1 ρ1 m1 S1 (it_rev (Evl.ex_l S1.ex hs) hs (its_dqa hd))⟩⟩
/-! a loop over few written items, turn by turn -/
def Unr (K : PySem.W.Frag) (W : WE) (tb : TS) (j : Nat) (P : Post) : List It → Es → List Ob → Prop
  | [], e, s => P.nx e s
  | x :: r, e, s => Ws K W tb (e.set j (.it x)) s ⟨Unr K W tb j P r, P.rt, P.nx, Unr K W tb j P r, P.ex⟩
theorem w_forU {wi : TI} {j : Nat} {tb : TS} (h : EvI K wi es st st1 all xs) (hu : Unr K W tb j P xs es st1) : Ws K W (tFor wi (gName j) tb) es st P := by
  refine w_forN h (fun i e s => Unr K W tb j P (xs.drop i) e s) hu (fun _ _ _ _ => True.intro) (fun i x e s hx hv => ?_) (fun e s hv => ?_)
  · obtain ⟨hi, hg⟩ := List.getElem?_eq_some_iff.mp hx
    rw [List.drop_eq_getElem_cons hi, hg] at hv
    exact hv
  · rw [List.drop_length] at hv
    exact hv
/-! tables of the module: walked as they stand -/
theorem ei_ixD {a : Addr} {z : Str} {ns : List Int} (hb : Ev K tb es st st1 (.dat (.str z))) (h : Pu.DTab K w a z ns) : EvI K (iTup K (tOp (rIxD K w) (tC (.ref a)) tb)) es st st1 all ((ns.map PyData.int).map It.dat) := .mk fun {G H ρ σ} S T {R} q => hb.run S T fun v G1 H1 ρ1 m1 S1 hv => by
  obtain ⟨t, hk, ht⟩ := h
  have sq : ∀ {H : Hp}, SqT K H t (ns.map V.int) := .inr ht
  have l : (ns.map V.int).length = ((ns.map PyData.int).map It.dat).length := by rw [List.length_map, List.length_map, List.length_map]
  have its : ∀ {G : Hp} {ρ : List Addr}, Its K G ρ (ns.map V.int) ((ns.map PyData.int).map It.dat) := by
    intro G ρ
    clear q hk ht sq l
    induction ns with
    | nil => exact .nil
    | cons n ns ih => exact .cons (Dq.int n) ih
  refine ⟨a, z, .ref t, rfl, dq_str hv, hk, t, rfl, ⟨_, sq⟩, q _ G1 H1 ρ1 m1 S1 ⟨fun X i G' H' ρ' s o m S z hi => ?_, fun X i v G' H' H'' ρ' s o m S z hi y => ?_, fun X G' H' ρ' s o m S z => ⟨_, sq, by rw [l]; exact Nat.le_refl _⟩⟩⟩
  · obtain ⟨v, hv, _⟩ := its_at (its (G := G') (ρ := ρ')) (List.getElem?_eq_getElem hi)
    exact ⟨_, v, sq, hv⟩
  · obtain ⟨e1, y⟩ := y
    obtain ⟨w, hw, hx⟩ := its_at (its (G := G') (ρ := ρ')) (List.getElem?_eq_getElem hi)
    have := y _ sq
    rw [hw] at this
    cases this
    exact ⟨e1, _, List.getElem?_eq_getElem hi, hx⟩
end
end Pv

/-! second make: defs that change nothing -/
namespace Pv
open PySem PySem.Spec L2
open PyProof.Rows (envOfC)
section
variable {K : PySem.W.Frag} {G H : Hp} {ρ : List Addr} {st : List Ob}
theorem okIt_of {v : V} (hl : ρ.length = st.length) : ∀ {x : It}, ItAt K G ρ v x → okIt st.length x = true
  | .dat _, _ => rfl
  | .ob i, ⟨p, _, h⟩ => decide_eq_true (by
    have := (List.getElem?_eq_some_iff.mp h).1
    omega)
theorem okIts_of {vs : List V} {xs : List It} (hl : ρ.length = st.length) (h : Its K G ρ vs xs) : xs.all (okIt st.length) = true := by
  induction h with
  | nil => rfl
  | cons a b ih => rw [List.all_cons, okIt_of hl a, ih]; rfl
theorem okDM_of {kvs : List (List Key × V)} {m : List (P2 × It)} (hl : ρ.length = st.length) (h : Paired (fun (a : List Key × V) (b : P2 × It) => a.1 = pk b.1 ∧ ItAt K G ρ a.2 b.2) kvs m) : (m.all fun b => okIt st.length b.2) = true := by
  induction h with
  | nil => rfl
  | cons a b ih => rw [List.all_cons, okIt_of hl a.2, ih]; rfl
theorem okFM_of {fv : List (Str × V)} {fs : List (Str × It)} (hl : ρ.length = st.length) (h : Paired (fun (a : Str × V) (b : Str × It) => a.1 = b.1 ∧ ItAt K G ρ a.2 b.2) fv fs) : (fs.all fun b => okIt st.length b.2) = true := by
  induction h with
  | nil => rfl
  | cons a b ih => rw [List.all_cons, okIt_of hl a.2, ih]; rfl
theorem okOb_of {p : Addr} (hl : ρ.length = st.length) : ∀ {o : Ob}, ObAt K G H ρ p o → okOb st.length o = true
  | .lst _, ⟨_, _, h⟩ => okIts_of hl h
  | .dic _, ⟨_, _, h⟩ => okDM_of hl h
  | .dicF _ _ _, ⟨_, h⟩ => okDM_of hl h
  | .ins _ _, ⟨_, _, _, _, _, _, h⟩ => okFM_of hl h
  | .ext _, _ => rfl
  | .nil, _ => rfl
theorem okSt_of (S : Sh K G H ρ st) : okSt st = true := List.all_eq_true.mpr fun o ho => by
  obtain ⟨i, hi, rfl⟩ := List.getElem_of_mem ho
  have hi2 : i < ρ.length := by
    rw [S.len]
    exact hi
  exact okOb_of S.len (S.ob i _ _ (List.getElem?_eq_getElem hi) (List.getElem?_eq_getElem hi2))
theorem ok_dats {n : Nat} : ∀ {ds : List PyData}, (ds.map It.dat).all (okIt n) = true
  | [] => rfl
  | d :: ds => by
    show (true && (ds.map It.dat).all (okIt n)) = true
    rw [ok_dats]
    rfl
end
/-- arguments that are data -/
theorem ed_nil {K : PySem.W.Frag} {es : Es} {st : List Ob} : EvA K tNil es st st (([] : List PyData).map It.dat) := ea_nil
theorem ed_cons {K : PySem.W.Frag} {es : Es} {st st1 st2 : List Ob} {te : TE} {tr : TA} {d : PyData} {ds : List PyData} (h : Ev K te es st st1 (.dat d)) (hr : EvA K tr es st1 st2 (ds.map It.dat)) : EvA K (tCons te tr) es st st2 ((d :: ds).map It.dat) := ea_cons h hr
/-- a promise that the store stays -/
abbrev spP {α : Type} (K : PySem.W.Frag) (args : α → List It) (pre : α → Prop) (res : α → Rv) : Sp := spV (α := List Ob × α) K (fun a => args a.2) (fun a => pre a.2) (fun a => a.1) (fun a => .ret (res a.2) a.1)
section
variable {P : Program} {w : World} {K : PySem.W.Frag} {mg : Str → Option Value} {base : Heap} {α : Type} {args : α → List It} {pre : α → Prop} {res : α → Rv} {es : Es} {st st1 : List Ob} {r : Rv}
theorem ep_call {ts : TA} {E : XK} (a : α) (h : EvA K ts es st st1 (args a)) (hp : pre a) : Ev K (tCall (spP K args pre res) [] E ts) es st st1 (res a) := ev_call (α := List Ob × α) (args := fun a => args a.2) (pre := fun a => pre a.2) (stf := fun a => a.1) (out := fun a => .ret (res a.2) a.1) (st1, a) h hp rfl
/-- how a def ends that promises so: a thing, or an object that it made -/
def EndP (st : List Ob) (res r : Rv) (s : List Ob) : Prop := ∃ ex, s = st ++ ex ∧ ((r = res ∧ okRv st.length res = true) ∨ ∃ i o, r = .it (.ob i) ∧ st.length ≤ i ∧ s[i]? = some o ∧ res = .fr o ∧ okOb st.length o = true ∧ o ≠ .nil)
abbrev postP (st : List Ob) (res : Rv) : Post := { nx := fun _ s => EndP st res (.dat .none) s, rt := fun r s => EndP st res r s }
theorem endP {d : PyData} : EndP st (.dat d) (.dat d) st := ⟨[], (List.append_nil _).symm, .inl ⟨rfl, rfl⟩⟩
theorem endF {ds : List PyData} : EndP st (.fr (.lst (ds.map It.dat))) (.fr (.lst (ds.map It.dat))) st := ⟨[], (List.append_nil _).symm, .inl ⟨rfl, ok_dats⟩⟩
theorem fn_p {x qual : Str} {st0 : Stmt} {f : Addr} {fd : FuncData} {N ps : List Str} {k : Nat} (F : Fun K x qual st0 f fd) (S : FnScope N ps (defScope st0)) (hl : ∀ a, (args a).length = ps.length)
    (h : ∀ (cdv : Value) (A : Around) (outer : List Env) (s : Shared) (H : Hp) (E : XK), Room k (A.deeper (envOfC qual (defScope st0) s.heap.objs.size f cdv)) →
      ∃ t, PSs (cxOf CX0 P w K mg base N qual (defScope st0) f cdv A outer s H E).nox (defBody st0) t ∧ ∀ a, pre a → ∀ st, Ws K (cW E) t (startE N (args a)) st (postP st (res a))) :
    FnOk P w K mg base CX0 (k + 1) f fd ps (spP K args pre res) := by
  refine F.ok S (fun vs H Q E ⟨a, G, ρ, _, _, hv, _⟩ => by rw [its_len hv, hl]) (fun cdv A outer s H vs Q E hr hsp => ?_)
  obtain ⟨⟨st, a⟩, G, ρ, hp, Sa, hv, q⟩ := hsp
  obtain ⟨t, ht, hw⟩ := h cdv A outer s H E hr
  have ok : okSt st = true := okSt_of Sa
  have D := dk_fn (by rw [Sa.len]; exact Nat.le_refl _) q
  refine ⟨t, ht, (hw a hp st).run Sa (se_start hv) ⟨fun G' H' ρ' σ' es' s hn m S' T' => ?_, fun _ _ _ _ _ _ z => z.elim, fun _ _ _ _ _ _ z => z.elim, fun v G' H' ρ' r s hn m S' hv' => ?_, fun _ _ _ _ _ _ _ z => z.elim⟩⟩
  · obtain ⟨ex, e, z⟩ := hn
    exact D.nx G' H' ρ' σ' es' s ⟨ex, e, ok, z⟩ m S' T'
  · obtain ⟨ex, e, z⟩ := hn
    exact D.rt v G' H' ρ' r s ⟨ex, e, ok, z⟩ m S' hv'
end
end Pv

/-! rules of the machine: sum and max of the values of a dict from places -/
namespace Pm
open PySem PySem.Spec L2
open PyProof.Rows
/-- the view of values at p -/
def valsO (p d : Addr) : HO := .ext fun h => h.IsValuesView p d
section
variable {X : Cx}
def rValsT : V → List V → Hp → VK → Prop := fun x xs H Q => ∃ (a : Addr) (kvs : List (List L2.Key × V)), x = .ref a ∧ xs = [] ∧ H a = some (.dT kvs) ∧ ∀ p, H p = none → Q (.ref p) (upd H p (valsO p a))
theorem mt_valsT : MtR X "dict.values" rValsT := by
  intro pins s σ H x xs v us Q I rx rxs h
  obtain ⟨a, kvs, rfl, rfl, ha, q⟩ := h
  cases rx
  cases rxs
  obtain ⟨_, sys, _, _, o, es, ep, ho, ex, dat, _⟩ := dt_of I.hok ha
  have raw : DT.Raw s.heap a es ep := ⟨o, ho, ex, dat⟩
  have free : H s.heap.objs.size = none := I.hok.fresh (Nat.le_refl _)
  have new : (s.heap.push { cls := .type "dict_values", data := .fields #[.ref a] }).get? s.heap.objs.size = some { cls := .type "dict_values", data := .fields #[.ref a] } := Heap.get?_push_size _ rfl
  have ask : MeetsIn X.prog X.w (Builtin.«dict.values» ⟨[.ref a], []⟩) (fun _ R s' => DT.Raw s'.heap a es ep ∧ R (.ok (.ret (.ref s'.heap.objs.size))) { s' with heap := s'.heap.push { cls := .type "dict_values", data := .fields #[.ref a] } }) :=
    .of_wp fun A R s' ⟨hm, hr⟩ => by
      refine wpAny_bind ?_
      unfold Builtin.Dict.noArgs
      refine wpAny_bind (wpAny_notOrdered_dict hm.typeIs ?_)
      show wpAny _ _ (pure a) _ _ s'
      refine wpAny_pure (?_ : wpAny _ _ (Builtin.Dict.showsAll a >>= _) _ _ s')
      unfold Builtin.Dict.showsAll
      rw [if_neg (by rw [sys]; exact Bool.false_ne_true)]
      exact wpAny_bind (wpAny_pure (wpAny_bind (wpAny_newObj_type (wpAny_pure ⟨_, rfl, hr⟩))))
  refine call_meetsIn PySem.F.slot_dict_values raw.typeIs PySem.F.entry_dict_values (PySem.F.args_dict_values_1 _) ask ⟨raw, ?_⟩
  have ok : ObjOk X.prog X.w (upd H s.heap.objs.size (valsO s.heap.objs.size a)) (s.heap.push { cls := .type "dict_values", data := .fields #[.ref a] }) s.heap.objs.size (valsO s.heap.objs.size a) := ⟨⟨_, new, rfl, rfl⟩, ⟨_, new⟩, fun h1 h2 x k => let ⟨o', e1, e2⟩ := x; ⟨o', k o' e1, e2⟩⟩
  exact ⟨.ref s.heap.objs.size, _, I.laid (t' := s.toks) (fun b u z => Heap.get?_push_of_some _ z) (Nat.le_refl _) ok, rfl, q _ free⟩
/-- the values are whole numbers -/
theorem vals_int {H : Hp} {kvs : List (List L2.Key × V)} {xs : List (List L2.Key × Addr × Value)} {ns : List Int} {P : Program} {w : World} {es : Array DictEntry} (rel : KT H kvs xs) (hn : kvs.map (·.2) = ns.map V.int)
    (he : es.toList = xs.map (entryOfKey (tupleKind (mixKind P w)))) : es.size = ns.length ∧ ∀ (i : Nat) (v : Value), (∃ hi : i < es.size, v = es[i].val) → ∃ t, v = Value.int (ns.getD i 0) t := by
  have l1 := Paired.length rel
  have l2 : kvs.length = ns.length := by
    have := congrArg List.length hn
    rwa [List.length_map, List.length_map] at this
  have l3 := size_of_entries he
  refine ⟨by omega, fun i v ⟨hi, hv⟩ => ?_⟩
  have at' : ∀ {kvs : List (List L2.Key × V)} {xs : List (List L2.Key × Addr × Value)}, KT H kvs xs → ∀ {i : Nat} {q : List L2.Key × Addr × Value}, xs[i]? = some q → ∃ p, kvs[i]? = some p ∧ RelV p.2 q.2.2 := by
    intro kvs xs r
    induction r with
    | nil => intro i q z; simp at z
    | @cons p q' ps qs h t ih =>
      intro i q z
      cases i with
      | zero =>
        cases (show some q' = some q from z)
        exact ⟨p, rfl, h.2.2⟩
      | succ i => exact ih (i := i) z
  have e1 := entry_at he i
  rw [Array.getElem?_eq_getElem hi] at e1
  obtain ⟨q, hq, e2⟩ := Option.map_eq_some_iff.mp e1.symm
  obtain ⟨p, hp, r⟩ := at' rel hq
  have e3 : (kvs.map (·.2))[i]? = some p.2 := by rw [List.getElem?_map, hp]; rfl
  rw [hn, List.getElem?_map] at e3
  obtain ⟨n, hn', e4⟩ := Option.map_eq_some_iff.mp e3
  rw [← e4] at r
  obtain ⟨t, r⟩ := r
  refine ⟨t, ?_⟩
  rw [hv, ← e2, List.getD_eq_getElem?_getD, hn']
  exact r
def rSumV : List V → Hp → VK → Prop := fun vs H Q => ∃ (p a : Addr) (kvs : List (List L2.Key × V)) (ns : List Int), vs = [V.ref p] ∧ H p = some (valsO p a) ∧ H a = some (.dT kvs) ∧ kvs.map (·.2) = ns.map V.int ∧ Q (.int ns.sum) H
theorem pre_sum : ∀ ns : List Int, preSum (fun i => ns.getD i 0) ns.length = ns.sum
  | [] => rfl
  | n :: ns => by
    rw [List.length_cons, PySem.W.kdu_shift, List.sum_cons, ← pre_sum ns]
    rfl
theorem cr_sumV (hc : X.calm = true) : CallR X (.builtin "sum") rSumV := by
  intro pins s σ H vs us Q I r h
  obtain ⟨p, a, kvs, ns, rfl, hp, ha, hn, q⟩ := h
  rw [Vals.ref1 r]
  have view : s.heap.IsValuesView p a := (show ObjOk X.prog X.w H s.heap p (valsO p a) from I.hok p _ hp).1
  obtain ⟨_, _, xs, rel, o, es, ep, ho, ex, dat, he, _⟩ := dt_of I.hok ha
  obtain ⟨l1, hval⟩ := vals_int rel hn he
  have K := @PySem.KdlSrc.rawValues X.prog X.w a p es ep
  refine call_sum_walkAnyS ?_
  obtain ⟨oI, St, hit, W, st⟩ := K.iter X.A.in1 s (I.ok.hd hc) ⟨view, ⟨o, ho, ex, dat⟩⟩
  refine hit _ _ ⟨s.heap.objs.size, _, _, _, es.size, _, _, _, rfl, W.toS, st, fun b hb => ?_, hval, fun s' t' hm => ?_⟩
  · show b < (s.heap.push oI).objs.size
    rw [Heap.size_push]
    rcases List.mem_cons.mp hb with z | z
    · rw [z]
      exact Nat.lt_succ_self _
    · rw [List.mem_singleton.mp z]
      exact Nat.lt_succ_of_lt (Heap.lt_size ho)
  · have keep : ∀ b u, s.heap.get? b = some u → s'.heap.get? b = some u := fun b u e => hm.heap b u (fun z => by
      have lt := Heap.lt_size e
      rw [List.mem_singleton.mp z] at lt
      exact Nat.lt_irrefl _ lt) (Heap.get?_push_of_some _ e)
    rw [Moved.eq_with hm, l1, pre_sum]
    exact ⟨.int _, H, I.kept (t' := s'.toks) keep, ⟨_, rfl⟩, q⟩
def rMaxV : List V → Hp → VK → Prop := fun vs H Q => ∃ (p a : Addr) (kvs : List (List L2.Key × V)) (ns : List Int), vs = [V.ref p] ∧ H p = some (valsO p a) ∧ H a = some (.dT kvs) ∧ kvs.map (·.2) = ns.map V.int ∧ 0 < ns.length ∧ ∀ m, m ∈ ns → (∀ y ∈ ns, y ≤ m) → Q (.int m) H
theorem cr_maxV (hc : X.calm = true) : CallR X (.builtin "max") rMaxV := by
  intro pins s σ H vs us Q I r h
  obtain ⟨p, a, kvs, ns, rfl, hp, ha, hn, pos, q⟩ := h
  rw [Vals.ref1 r]
  have view : s.heap.IsValuesView p a := (show ObjOk X.prog X.w H s.heap p (valsO p a) from I.hok p _ hp).1
  obtain ⟨_, _, xs, rel, o, es, ep, ho, ex, dat, he, _⟩ := dt_of I.hok ha
  obtain ⟨l1, hval⟩ := vals_int rel hn he
  have K := @PySem.KdlSrc.rawValues X.prog X.w a p es ep
  refine call_max_walk ?_
  obtain ⟨oI, St, hit, W, st⟩ := K.iter X.A.in1 s (I.ok.hd hc) ⟨view, ⟨o, ho, ex, dat⟩⟩
  refine hit _ _ ⟨s.heap.objs.size, _, _, es.size, _, _, _, rfl, W, st, fun b hb => ?_, by omega, CmpOf.ints_gt (fun i => ns.getD i 0) hval, fun v h' tk hv hk => ?_⟩
  · show b < (s.heap.push oI).objs.size
    rw [Heap.size_push]
    rcases List.mem_cons.mp hb with z | z
    · rw [z]
      exact Nat.lt_succ_self _
    · rw [List.mem_singleton.mp z]
      exact Nat.lt_succ_of_lt (Heap.lt_size ho)
  · obtain ⟨t, rfl⟩ := hval _ _ hv
    obtain ⟨b1, b2⟩ := argBest_gt (fun i => ns.getD i 0) (es.size - 1)
    have keep : ∀ b u, s.heap.get? b = some u → h'.get? b = some u := fun b u e => hk b u (fun z => by
      have lt := Heap.lt_size e
      rw [List.mem_singleton.mp z] at lt
      exact Nat.lt_irrefl _ lt) (Heap.get?_push_of_some _ e)
    refine ⟨.int _, H, I.kept (t' := tk) keep, ⟨t, rfl⟩, q _ (PySem.getD_mem (by omega)) fun y hy => ?_⟩
    obtain ⟨j, hj, e⟩ := List.mem_iff_getElem.mp hy
    have z := b2 j (by omega)
    rwa [show ns.getD j 0 = y by rw [List.getD_eq_getElem?_getD, List.getElem?_eq_getElem hj, ← e]; rfl] at z
end
end Pm

/-! rules of the machine: del xs[i:] -/
namespace Pm
open PySem PySem.Spec L2
open PyProof.Rows
theorem cut_ge {α : Type} (f : Nat → Bool) : ∀ (xs : List α) (k : Nat), (∀ i, k ≤ i → i < k + xs.length → f i = true) → ((xs.zipIdx k).filterMap fun p => if f p.2 = true then none else some p.1) = []
  | [], _, _ => rfl
  | x :: xs, k, h => by
    rw [List.zipIdx_cons, List.filterMap_cons]
    rw [if_pos (h k (Nat.le_refl _) (by simp))]
    exact cut_ge f xs (k + 1) fun i h1 h2 => h i (by omega) (by rw [List.length_cons]; omega)
theorem cut_lt {α : Type} (f : Nat → Bool) : ∀ (xs : List α) (k n : Nat), n ≤ xs.length → (∀ i, k ≤ i → i < k + n → f i = false) → (∀ i, k + n ≤ i → i < k + xs.length → f i = true) → ((xs.zipIdx k).filterMap fun p => if f p.2 = true then none else some p.1) = xs.take n
  | xs, k, 0, _, _, h => by
    rw [List.take_zero]
    exact cut_ge f xs k fun i h1 h2 => h i (by omega) h2
  | [], k, n + 1, hn, _, _ => by simp at hn
  | x :: xs, k, n + 1, hn, h1, h2 => by
    rw [List.zipIdx_cons, List.filterMap_cons]
    rw [if_neg (by rw [h1 k (Nat.le_refl _) (by omega)]; exact Bool.false_ne_true)]
    rw [List.take_succ_cons]
    show x :: _ = x :: _
    congr 1
    exact cut_lt f xs (k + 1) n (by simpa using hn) (fun i a b => h1 i (by omega) (by omega)) fun i a b => h2 i (by omega) (by rw [List.length_cons]; omega)
section
variable {prog : Program} {w : World} {A : Around} {E : Value → Shared → Prop} {s : Shared}
theorem del_from {l sl : Addr} {items : Array Value} {n : Nat} {vl vu : Value} {a : Nat} {Q : Unit → Shared → Prop} (e : s.heap.get? l = some { cls := .type "list", data := .seq items n }) (hs : s.heap.IsSliceOf sl vl vu .none)
    (pl : IsPart vl (some (a : Int))) (pu : IsPart vu none) (ha : a ≤ items.size) (hsz : items.size ≤ sizeLine) (h : ∀ f : Array Value → Array Value, f items = (items.toList.take a).toArray → Q () { s with heap := s.heap.update l (Obj.mapSeq f) }) :
    wpAny (model prog w) A (delItem (.ref l) (.ref sl)) Q E s := by
  have hl : s.heap.IsList l items := PySem.IsL.isList e
  obtain ⟨os, hos, hcs, hds⟩ := id hs
  have hTs : s.TypeIs (.ref sl) "slice" := ⟨os, hos, hcs⟩
  have hstep : ¬ ((rawPart none == rawInt 0) = true) := Bool.false_ne_true
  refine wpAny_delItem_slot (id := "list.__delitem__") hl.typeIs (by decide) PySem.F.slot_list_delitem ?_
  refine wpAny_call_entry PySem.F.slot_list_delitem hl.typeIs PySem.F.entry_list_delitem ?_ (PySem.F.args_list_delitem_2 _ _)
  show wpAny _ _ (Builtin.List.listSubscript? (.ref sl) >>= _) _ _ s
  refine wpAny_bind ?_
  unfold Builtin.List.listSubscript?
  refine wpAny_bind (wpAny_specialOf hTs slice_no_index ?_)
  simp only [Option.isNone_none, if_true]
  refine wpAny_pure ?_
  show wpAny _ _ (typeOf (.ref sl) >>= _) _ _ s
  refine wpAny_bind (wpAny_typeOf hTs ?_)
  first
    | rw [if_neg (by decide)]
    | refine PySem.W.KFB.if_not (by decide) ?_
  rw [listSliceParts_eq]
  refine wpAny_bind (wpAny_bind (wpAny_field hos hds (x := .none) rfl (wpAny_bind (wpAny_listPart .none ?_))))
  rw [if_neg hstep]
  refine wpAny_bind (wpAny_field hos hds (x := vl) rfl (wpAny_bind (wpAny_listPart pl ?_)))
  refine wpAny_bind (wpAny_field hos hds (x := vu) rfl (wpAny_bind (wpAny_listPart pu (wpAny_pure ?_))))
  unfold Builtin.List.listItems
  refine wpAny_bind (wpAny_bind (wpAny_seqItems e rfl (wpAny_pure ?_)))
  have bounds : sliceBounds (some (a : Int)) none none items.size = ((a : Int), (items.size : Int), 1) := by
    simp only [sliceBounds, Option.getD_none]
    have h1 : ¬ ((a : Int) < 0) := by omega
    simp only [h1, if_false, show (1 : Int) > 0 by decide, if_true]
    congr 1
    omega
  refine wpAny_bind (wpAny_of_eq ((sliceIndices_raw (some (a : Int)) none none items.size (by simp)).trans (congrArg (pure : Int × Int × Int → Sem (Int × Int × Int)) bounds)) ?_)
  refine wpAny_bind (wpAny_rule ?_)
  refine wpAny_bind (m := updateSeq l _) (wpAny_updateSeq (hz := hsz) (_hz' := ?z) e rfl ?_)
  case z =>
    refine Nat.le_succ_of_le (Nat.le_trans ?_ hsz)
    dsimp only
    rw [List.size_toArray]
    refine Nat.le_trans (List.length_filterMap_le _ _) ?_
    rw [List.length_zipIdx, Array.length_toList]
    exact Nat.le_refl _
  refine wpAny_bind (wpAny_letGo ?_)
  refine wpAny_pure ⟨.none, rfl, h _ (congrArg List.toArray (cut_lt _ items.toList 0 a (by rw [Array.length_toList]; exact ha) (fun i h1 h2 => ?_) fun i h1 h2 => ?_))⟩
  · show (if (1 : Int) > 0 then decide ((a : Int) ≤ (i : Int)) && decide ((i : Int) < (items.size : Int)) && (((i : Int) - (a : Int)) % 1 == 0) else _) = false
    rw [if_pos (by decide), decide_eq_false (by omega)]
    rfl
  · show (if (1 : Int) > 0 then decide ((a : Int) ≤ (i : Int)) && decide ((i : Int) < (items.size : Int)) && (((i : Int) - (a : Int)) % 1 == 0) else _) = true
    rw [Array.length_toList] at h2
    rw [if_pos (by decide), decide_eq_true (by omega), decide_eq_true (by omega), Int.emod_one]
    rfl
end
section
variable {X : Cx}
/-- del xs[i:] -/
def tDelF (to ti : TE) : TS := fun D σ H => to σ H fun x H1 => ti σ H1 fun y H2 => ∃ (l : Addr) (xs : List V) (a : Nat), x = .ref l ∧ y = .int (a : Int) ∧ H2 l = some (.lst xs) ∧ a ≤ xs.length ∧ D.nx σ (upd H2 l (.lst (xs.take a)))
theorem ps_delF {o i : Expr} {to ti : TE} {p2 tpos pos : Pos} (ho : PE X o to) (hi : PE X i ti) : PS X (.Delete [.Subscript o (.Slice (some i) none none p2) tpos] pos) (tDelF to ti) := by
  refine ⟨fun pins s σ H D I h => ?_⟩
  refine wpAny_Delete (wpAny_deleteEach_cons (wpAny_delete_Subscript (thn (ho.run pins s σ H _ I h) fun u s1 ⟨x, H1, I1, rx, q1⟩ => ?_)))
  refine wpAny_Slice (thn (hi.run pins s1 σ H1 _ I1 q1) fun iv s2 ⟨y, H2, I2, ry, l, xs, a, ex, ey, hH, ha, q⟩ => ?_)
  subst ex
  subst ey
  cases (show u = Value.ref l from rx)
  obtain ⟨t, rfl⟩ := (show ∃ t, iv = Value.int (a : Int) t from ry)
  rw [evalPart_none]
  refine wpAny_pure (wpAny_pure ?_)
  have I3 : Inv X pins σ H2 { s2 with heap := s2.heap.push { cls := .type "slice", data := .fields #[.int (a : Int) t, .none, .none] } } := I2.kept (t' := s2.toks) fun b ob q => Heap.get?_push_of_some _ q
  obtain ⟨z, its, n, r, hls, e⟩ := I3.lstM hH
  have hlen : its.length = xs.length := r.length.symm
  refine del_from (a := a) e (Heap.IsSliceOf.new ..) (.int _ _) .none (by rw [List.size_toArray, hlen]; exact ha) (by rw [List.size_toArray, hlen]; exact z) fun f hf => wpAny_deleteEach_nil ⟨σ, _, ?_, q⟩
  exact I3.lset (its' := its.take a) (t' := s2.toks) hH e (by rw [hf]) (r.take _) (Nat.le_trans (by rw [List.length_take]; exact Nat.min_le_right _ _) z)
end
end Pm

/-! rules of the machine: two dicts from places that hold the same -/
namespace Pm
open PySem PySem.Spec L2
open PyProof.Rows
section
variable {prog : Program} {w : World} {A : Around} {E : Value → Shared → Prop} {s : Shared} {κ : Type} [DecidableEq κ] {knd : HeapKind prog w κ}
theorem same_T {nm : String} {a b : Addr} {xa xb : List (κ × Addr × Value)} {Q : Bool → Shared → Prop} (hu : knd.room A) (ha : (a == sysModules) = false) (hb : (b == sysModules) = false) (da : s.heap.DictOfH knd a xa) (db : s.heap.DictOfH knd b xb)
    (hl : xa.length = xb.length) (hits : ∀ x ∈ xa, ∃ (j : Nat) (p : Addr × Value), xb[j]? = some (x.1, p) ∧ SeqAt.EqAt A s x.2.2 p.2 true) (h : Q true s) : wpAny (model prog w) A (Builtin.Dict.samePairs nm a b) Q E s := by
  obtain ⟨oa, es, ep, g1, _, g2, g3, g4, _⟩ := da
  obtain ⟨ob, fs, fp, k1, _, k2, k3, k4, k5⟩ := db
  have za : es.size = xa.length := size_of_entries g3
  have zb : fs.size = xb.length := size_of_entries k3
  unfold Builtin.Dict.samePairs Builtin.Dict.showsAll
  rw [if_neg (by rw [ha]; exact Bool.false_ne_true), if_neg (by rw [hb]; exact Bool.false_ne_true)]
  refine wpAny_bind (wpAny_pure (wpAny_bind (wpAny_pure (wpAny_bind (wpAny_dictEntries g1 g2 ?_)))))
  dsimp only
  refine wpAny_bind (wpAny_dictEntries k1 k2 ?_)
  rw [if_neg (by rw [za, zb, hl]; simp)]
  refine wpAny_bind (wpAny_dictEpoch g1 g2 (wpAny_bind ?_))
  rw [Std.Legacy.Range.forIn_eq_forIn_range']
  simp only [Std.Legacy.Range.size, Nat.sub_zero, Nat.add_sub_cancel, Nat.div_one]
  refine wpAny_forIn_list _ (fun rest q s' => s' = s ∧ q = (none, ()) ∧ ∀ i ∈ rest, i < es.size) _ ?_ ?_ _ _ ⟨rfl, rfl, fun i hi => ?_⟩
  · rintro i rest q s' ⟨rfl, rfl, hr⟩
    have lt : i < es.size := hr i List.mem_cons_self
    have more : ∀ j ∈ rest, j < es.size := fun j hj => hr j (List.mem_cons_of_mem _ hj)
    have lt2 : i < xa.length := by omega
    refine wpAny_bind (wpAny_dictEntries g1 g2 ?_)
    have e1 := entry_at g3 i
    rw [List.getElem?_eq_getElem lt2, Option.map_some] at e1
    rw [e1]
    have hm : xa[i] ∈ xa := List.getElem_mem lt2
    obtain ⟨j, p, hj, he⟩ := hits _ hm
    show wpAny _ _ (holding [Value.ref xa[i].2.1, xa[i].2.2] _ >>= _) _ _ _
    refine wpAny_bind (wpAny_holding (wpAny_bind ?_))
    show wpAny _ _ (dictFind b (.ref xa[i].2.1) (knd.hash xa[i].1)) _ _ _
    refine wpAny_dictFind_heap hu (g4 _ hm) k1 k2 k3 k4 k5 (fun no => absurd hj (no j p)) fun j2 p2 hj2 => ?_
    have ep : p2 = p := by
      have q1 : (xb.map (·.1))[j]? = some xa[i].1 := by rw [List.getElem?_map, hj]; rfl
      have q2 : (xb.map (·.1))[j2]? = some xa[i].1 := by rw [List.getElem?_map, hj2]; rfl
      have ej : j2 = j := (List.getElem?_inj (List.getElem?_eq_some_iff.mp q2).1 k5).mp (q2.trans q1.symm)
      subst ej
      rw [hj] at hj2
      cases hj2
      rfl
    subst ep
    refine wpAny_bind (wpAny_dictEntries k1 k2 ?_)
    have e2 := entry_at k3 j2
    rw [hj2, Option.map_some] at e2
    rw [e2]
    refine wpAny_holding (he prog w _ _ ?_)
    show wpAny _ _ (if (!true) = true then _ else _) _ _ _
    rw [if_neg (by decide)]
    refine wpAny_bind (wpAny_dictEpoch g1 g2 ?_)
    rw [if_neg (by simp)]
    exact wpAny_pure ⟨rfl, rfl, more⟩
  · rintro q s' ⟨rfl, rfl, _⟩
    exact wpAny_pure h
  · exact Nat.lt_of_lt_of_le (List.mem_range'_1.mp hi).2 (by simp)
theorem ne_T {a b : Addr} {xa xb : List (κ × Addr × Value)} {Q : Value → Shared → Prop} (hr : knd.room A.in1) (ha : (a == sysModules) = false) (hb : (b == sysModules) = false) (da : s.heap.DictOfH knd a xa) (db : s.heap.DictOfH knd b xb) (hu : A.units < cLine)
    (hl : xa.length = xb.length) (hits : ∀ x ∈ xa, ∃ (j : Nat) (p : Addr × Value), xb[j]? = some (x.1, p) ∧ SeqAt.EqAt A.in1 s x.2.2 p.2 true) (h : Q (.bool false) s) : wpAny (model prog w) A (compareOp .NotEq (.ref a) (.ref b)) Q E s := by
  refine wpAny_richCompare_same_room (op := .NotEq) da.typeIs db.typeIs PySem.F.slot_dict_ne (wpAny_call_entry PySem.F.slot_dict_ne da.typeIs PySem.F.entry_dict_ne ?_ (PySem.F.args_dict_ne_2 _ _)) hu
  refine wpAny_bind (m := Builtin.Dict.dictSlotArgs "__ne__" ⟨[.ref a, .ref b], []⟩) ?_
  unfold Builtin.Dict.dictSlotArgs
  refine wpAny_bind (wpAny_notOrdered_dict da.typeIs ?_)
  show wpAny _ _ (pure (Value.ref a, Value.ref b)) _ _ s
  refine wpAny_pure (wpAny_bind (wpAny_isInstance (T := "dict") db.typeIs PySem.F.sub_dict_dict ?_))
  simp only [Bool.not_true, Bool.false_eq_true, if_false]
  refine wpAny_bind (wpAny_pure (wpAny_bind (wpAny_pure (wpAny_bind (same_T hr ha hb da db hl hits ?_)))))
  refine wpAny_pure ⟨_, rfl, (fun x => nomatch x), ?_⟩
  simpa using h
end
section
variable {X : Cx}
/-- a != b, two dicts that hold the same things, none of them an object -/
def rNeT : R2 := fun x y H Q => ∃ a b ks ls, x = .ref a ∧ y = .ref b ∧ H a = some (.dT ks) ∧ H b = some (.dT ls) ∧ ks.length = ls.length ∧ (∀ p ∈ ks, valV ls p.1 = some p.2 ∧ flatB p.2 = true) ∧ Q (.bl false) H
theorem op_neT (hu : X.A.units + 1 < cLine) : OpR X (compareOp .NotEq) rNeT := by
  intro pins s σ H x y v u Q I rx ry h
  obtain ⟨a, b, ks, ls, rfl, rfl, ea, eb, hlen, hp, q⟩ := h
  cases (show v = Value.ref a from rx)
  cases (show u = Value.ref b from ry)
  obtain ⟨_, ya, xa, ra, da⟩ := dt_of I.hok ea
  obtain ⟨_, yb, xb, rb, db⟩ := dt_of I.hok eb
  have la := Paired.length ra
  have lb := Paired.length rb
  refine ne_T (show (tupleKind _).room X.A.in1 from hu) ya yb da db (Nat.lt_of_succ_lt hu) (by omega) (fun x hx => ?_) ⟨.bl false, H, I, rfl, q⟩
  have back : ∀ {ks : List (List Key × V)} {xa : List (List Key × Addr × Value)}, KT H ks xa → ∀ x ∈ xa, ∃ p ∈ ks, p.1 = x.1 ∧ RelV p.2 x.2.2 := by
    intro ks xa r
    induction r with
    | nil => exact fun x hx => nomatch hx
    | @cons p q ps qs h t ih =>
      intro x hx
      rcases List.mem_cons.mp hx with rfl | hx
      · exact ⟨p, List.mem_cons_self, h.1, h.2.2⟩
      · obtain ⟨p', m, r⟩ := ih x hx
        exact ⟨p', List.mem_cons_of_mem _ m, r⟩
  obtain ⟨p, mp, e1, r1⟩ := back ra x hx
  obtain ⟨e2, fl⟩ := hp p mp
  have rr := rb.val p.1
  rw [e2] at rr
  obtain ⟨y, hy, ry⟩ := rr.some_of
  obtain ⟨pr, hpr, ey⟩ := Option.map_eq_some_iff.mp hy
  have at' : ∀ {xb : List (List Key × Addr × Value)}, atKey xb p.1 = some pr → ∃ j : Nat, xb[j]? = some (p.1, pr) := by
    intro xb z
    unfold atKey at z
    obtain ⟨q, hq, e⟩ := Option.map_eq_some_iff.mp z
    obtain ⟨k, c⟩ := q
    have e3 := List.find?_some hq
    obtain ⟨j, hj, e4⟩ := List.getElem_of_mem (List.mem_of_find?_eq_some hq)
    refine ⟨j, ?_⟩
    rw [List.getElem?_eq_getElem hj, e4]
    have e3 : k = p.1 := of_decide_eq_true e3
    rw [e3]
    exact congrArg some (congrArg (Prod.mk p.1) e)
  obtain ⟨j, hj⟩ := at' hpr
  refine ⟨j, pr, by rw [hj, e1], ?_⟩
  rw [ey]
  exact eqAt_same r1 ry fl
end
end Pm

/-! second make: more of dicts from places; what is deleted; the law's own end -/
namespace Pv
open PySem PySem.Spec L2
open Evl (Ex sz_of sz_lt)
open PyProof.Rows (envOfC)
section
variable {K : PySem.W.Frag} {es : Es} {st st1 st2 st3 : List Ob} {ta tb te tk tv : TE} {tt : TT} {x y : It} {xs ys : List It} {r : Rv} {W : WE} {P : Post} {m : List (P2 × It)}
theorem ei_st {wi : TI} {ok : List Ob → Prop} (h : EvI K wi es st st1 ok xs) (z : st1 = st2) : EvI K wi es st st2 ok xs := z ▸ h
/-! the values of a dict -/
theorem dm_vals {G : Hp} {ρ : List Addr} {kvs : List (List Key × V)} {ns : List Int} (h : DM K G ρ kvs m) (hm : m.map (·.2) = ns.map fun i => It.dat (.int i)) : kvs.map (·.2) = ns.map V.int := by
  induction h generalizing ns with
  | nil =>
    cases ns with
    | nil => rfl
    | cons _ _ => cases hm
  | @cons a b l r hab t ih =>
    cases ns with
    | nil => cases hm
    | cons n ns =>
      rw [List.map_cons, List.map_cons] at hm
      injection hm with h1 h2
      rw [List.map_cons, List.map_cons, ih h2]
      congr 1
      have q := hab.2
      rw [h1] at q
      exact dq_int q
theorem nt_vals {p a : Addr} : NT (Pm.valsO p a) := True.intro
theorem vals_new {G H : Hp} {ρ : List Addr} {k : Nat} {p q : Addr} {kvs : List (List Key × V)} (S : Sh K G H ρ st) (hk : st[k]? = some (.dic m)) (hr : ρ[k]? = some p) (hp : H p = some (.dT kvs)) (hq : H q = none) : Sh K G (upd H q (Pm.valsO q p)) ρ st ∧ Mv G H ρ G (upd H q (Pm.valsO q p)) ρ ∧ upd H q (Pm.valsO q p) p = some (.dT kvs) := by
  obtain ⟨S2, m2⟩ := S.priv (o := Pm.valsO q p) nt_vals hq
  exact ⟨S2, m2, by rw [upd_ne fun z => by rw [z, hq] at hp; cases hp]; exact hp⟩
theorem ev_sumV {k : Nat} {ns : List Int} (h : Ev K te es st st1 (.ob k)) (hk : st1[k]? = some (.dic m)) (hm : m.map (·.2) = ns.map fun i => It.dat (.int i)) : Ev K (tCB Pm.rSumV (tCons (tBM0 K "dict" Pm.rValsT te) tNil)) es st st1 (.dat (.int ns.sum)) := .mk fun {G H ρ σ} S T {Q} q => h.run S T fun v G1 H1 ρ1 m1 S1 hv => by
  obtain ⟨p, rfl, hr, kvs, hp, hd⟩ := ob_at S1 hv hk
  refine ⟨.inr (.inr (.inl ⟨rfl, .inr ⟨kvs, hp⟩⟩)), p, kvs, rfl, rfl, hp, fun z hz => ?_⟩
  obtain ⟨S2, m2, hp2⟩ := vals_new S1 hk hr hp hz
  exact ⟨z, p, kvs, ns, rfl, upd_same, hp2, dm_vals hd hm, q _ G1 _ ρ1 (m1.trans m2) S2 (Dq.int _)⟩
theorem ev_maxV {k : Nat} {ns : List Int} {j : Int} (h : Ev K te es st st1 (.ob k)) (hk : st1[k]? = some (.dic m)) (hm : m.map (·.2) = ns.map fun i => It.dat (.int i)) (hj : j ∈ ns) (hle : ∀ y ∈ ns, y ≤ j) : Ev K (tCB Pm.rMaxV (tCons (tBM0 K "dict" Pm.rValsT te) tNil)) es st st1 (.dat (.int j)) := .mk fun {G H ρ σ} S T {Q} q => h.run S T fun v G1 H1 ρ1 m1 S1 hv => by
  obtain ⟨p, rfl, hr, kvs, hp, hd⟩ := ob_at S1 hv hk
  refine ⟨.inr (.inr (.inl ⟨rfl, .inr ⟨kvs, hp⟩⟩)), p, kvs, rfl, rfl, hp, fun z hz => ?_⟩
  obtain ⟨S2, m2, hp2⟩ := vals_new S1 hk hr hp hz
  refine ⟨z, p, kvs, ns, rfl, upd_same, hp2, dm_vals hd hm, List.length_pos_of_mem hj, fun i hi hi' => ?_⟩
  have h1 := hi' j hj
  have h2 := hle i hi
  rw [show i = j by omega]
  exact q _ G1 _ ρ1 (m1.trans m2) S2 (Dq.int _)
/-! slices of one's own lists -/
theorem its_take' {G : Hp} {ρ : List Addr} {vs : List V} : ∀ {xs : List It} (n : Nat), Its K G ρ vs xs → Its K G ρ (vs.take n) (xs.take n) := fun n h => by
  induction h generalizing n with
  | nil => rw [List.take_nil, List.take_nil]; exact .nil
  | cons a b ih =>
    cases n with
    | zero => exact .nil
    | succ n => exact .cons a (ih _)
theorem its_drop {G : Hp} {ρ : List Addr} {vs : List V} : ∀ {xs : List It} (n : Nat), Its K G ρ vs xs → Its K G ρ (vs.drop n) (xs.drop n) := fun n h => by
  induction h generalizing n with
  | nil => rw [List.drop_nil, List.drop_nil]; exact .nil
  | cons a b ih =>
    cases n with
    | zero => exact .cons a b
    | succ n => exact ih _
def cutI (xs : List It) (lo hi : Option Int) : List It := (xs.drop (HT.sIx xs.length 0 lo)).take (HT.sIx xs.length xs.length hi - HT.sIx xs.length 0 lo)
theorem ev_slO {k : Nat} {tl th : TO} {lo hi : Option Int} (ha : Ev K ta es st st1 (.ob k)) (hl : EvO K tl es st1 st2 lo) (hh : EvO K th es st2 st3 hi) (hk : st3[k]? = some (.lst xs)) :
    Ev K (tSl (rSlL K) ta tl th) es st st3 (.fr (.lst (cutI xs lo hi))) := .mk fun {G H ρ σ} S T {Q} q =>
  ha.run S T fun u G1 H1 ρ1 m1 S1 hu => hl.run S1 (T.mv m1) fun G2 H2 ρ2 m2 S2 => hh.run S2 ((T.mv m1).mv m2) fun G3 H3 ρ3 m3 S3 => by
    obtain ⟨p, rfl, hr⟩ := hu
    obtain ⟨vs, hp, hx⟩ := S3.ob k _ p hk (pre_get m3.pre (pre_get m2.pre hr))
    refine ⟨p, vs, rfl, .inl (.inl hp), fun r hr => ?_⟩
    obtain ⟨S4, m4⟩ := S3.priv (o := .lst (cutV vs lo hi)) True.intro hr
    have hc : Its K G3 ρ3 (cutV vs lo hi) (cutI xs lo hi) := by
      unfold cutV cutI
      rw [its_len hx]
      exact its_take' _ (its_drop _ hx)
    exact q _ _ _ _ (((m1.trans m2).trans m3).trans m4) S4 (fr_lst S3 hr (h0_of ((m1.trans m2).trans m3) hr) hc)
/-! del xs[i:] -/
theorem w_delF {k n : Nat} (h : Ev K ta es st st1 (.ob k)) (hb : Ev K tb es st1 st2 (.dat (.int (n : Int)))) (hk : st2[k]? = some (.lst xs)) (hn : n ≤ xs.length) (nx : P.nx es (st2.set k (.lst (xs.take n)))) : Ws K W (Pm.tDelF ta tb) es st P := .mk fun {G H ρ σ D} S T kk =>
  h.run S T fun u G1 H1 ρ1 m1 S1 hu => hb.run S1 (T.mv m1) fun v G2 H2 ρ2 m2 S2 hv => by
    obtain ⟨p, rfl, hr⟩ := hu
    have hr2 := pre_get m2.pre hr
    obtain ⟨vs, hp, hx⟩ := S2.ob k _ p hk hr2
    refine ⟨p, vs, n, rfl, dq_int hv, hp, by rw [its_len hx]; exact hn, ?_⟩
    have ht : Its K G2 ρ2 (vs.take n) (xs.take n) := its_take' n hx
    obtain ⟨S3, m3⟩ := S2.set (u := .lst (vs.take n)) (o := .lst (xs.take n)) hr2 True.intro (fun q z => by rw [hp] at z; cases z) ⟨_, upd_same, ht⟩
    exact kk.nx _ _ _ _ _ _ nx ((m1.trans m2).trans m3) S3 (((T.mv m1).mv m2).mv m3)
/-! a dict comprehension -/
structure BldD (K : PySem.W.Frag) (G1 H1 : Hp) (ρ1 : List Addr) (D : Addr) (st : List Ob) (H : Hp) (m : List (P2 × It)) : Prop where
  at' : ∃ G ρ, Mv G1 H1 ρ1 G H ρ ∧ Sh K G H ρ st ∧ G D = none ∧ D ∉ ρ ∧ ∃ kvs, H D = some (.dT kvs) ∧ DM K G ρ kvs m
/-- the entries put one after the other -/
def putAll {α : Type} (f : α → P2) (g : α → It) (as : List α) : List (P2 × It) := as.foldl (fun m a => putM m (f a) (g a)) []
theorem putM_len {m : List (P2 × It)} {p : P2} {x : It} : (putM m p x).length ≤ m.length + 1 := by
  unfold putM
  split
  · rw [List.length_map]
    omega
  · rw [List.length_append]
    exact Nat.le_refl _
theorem putAll_len {α : Type} {f : α → P2} {g : α → It} : ∀ (as : List α) (m : List (P2 × It)), (as.foldl (fun m a => putM m (f a) (g a)) m).length ≤ m.length + as.length
  | [], m => Nat.le_refl _
  | a :: as, m => by
    rw [List.foldl_cons, List.length_cons]
    have h1 := putAll_len (f := f) (g := g) as (putM m (f a) (g a))
    have h2 := @putM_len m (f a) (g a)
    omega
theorem dm_up {G G' : Hp} {ρ ρ' : List Addr} {kvs : List (List Key × V)} (e : Ex G G') (pr : ρ <+: ρ') (h : DM K G ρ kvs m) : DM K G' ρ' kvs m := L2.Paired.mapP h fun _ _ z => ⟨z.1, z.2.up e pr⟩
theorem ev_dc {α : Type} {wi : TI} {j : Nat} {vs : List Nat} {ok : List Ob → Prop} {as : List α} {enc : α → It} (f : α → P2) (g : α → PyData) (h : EvI K wi es st st1 ok (as.map enc)) (hok : ok st1) (hz : as.length ≤ 50000) (hj : ∀ σ x, wipe ((wipe σ vs).set j x) vs = wipe σ vs)
    (hk : ∀ a ∈ as, Ev K tk ((wipeE es vs).set j (.it (enc a))) st1 st1 (.dat (pD (f a)))) (he : ∀ a ∈ as, Ev K tv ((wipeE es vs).set j (.it (enc a))) st1 st1 (.dat (g a))) : Ev K (Pm.tDcT wi (gName j) tYes tk tv vs) es st st1 (.fr (.dic (putAll f (fun a => .dat (g a)) as))) := .mk fun {G H ρ σ} S T {Q} q =>
  h.run S T fun J G1 H1 ρ1 m1 S1 hJ D hD => by
    have la : (as.map enc).length = as.length := List.length_map _
    obtain ⟨S1', m1'⟩ := S1.priv (o := .dT []) True.intro hD
    have nD : D ∉ ρ1 := fun z => by
      obtain ⟨_, u, hu⟩ := S1.pr D z
      rw [hD] at hu
      cases hu
    refine ⟨fun i n H' => n = as.length - i ∧ i ≤ as.length ∧ BldD K G1 H1 ρ1 D st1 H' (putAll f (fun a => .dat (g a)) (as.take i)), ⟨as.length, by simp, Nat.zero_le _, G1, ρ1, m1', S1', fresh_back S1.ex hD, nD, [], upd_same, .nil⟩, ?_⟩
    rintro i n H' ⟨rfl, hi, G', ρ', mm, S', gD, nD', kvs, ha, hda⟩
    by_cases hlt : i < as.length
    · refine .inr ⟨hJ.go xNo i _ _ _ st1 old_no mm.mw S' hok (by rw [la]; exact hlt), fun H' => i + 1 ≤ as.length ∧ BldD K G1 H1 ρ1 D st1 H' (putAll f (fun a => .dat (g a)) (as.take (i + 1))), fun H3 w => ⟨as.length - (i + 1), by omega, rfl, w⟩, fun v H3 y => ?_⟩
      obtain ⟨rfl, x, hxi, hx⟩ := hJ.yld xNo i v _ _ _ _ st1 old_no mm.mw S' hok (by rw [la]; exact hlt) y
      rw [List.getElem?_map] at hxi
      obtain ⟨a, hai, rfl⟩ := Option.map_eq_some_iff.mp hxi
      have hm : a ∈ as := List.mem_of_getElem? hai
      have T' := ((T.mv (m1.trans mm)).wipe vs).put j (v := some v) (e := .it (enc a)) ⟨v, rfl, hx⟩
      have few : kvs.length ≤ i := by
        rw [dm_len hda]
        refine Nat.le_trans (putAll_len _ _) ?_
        rw [List.length_take]
        show 0 + min i as.length ≤ i
        omega
      refine ⟨hj σ (some v), ?_⟩
      rw [Pu.tYes_at, if_pos rfl]
      refine (hk a hm).run S' T' fun u G4 H4 ρ4 m4 S4 hu => ?_
      obtain ⟨a4, g4, n4⟩ := m4.fm D _ ha gD nD'
      refine (he a hm).run S4 (T'.mv m4) fun z G5 H5 ρ5 m5 S5 hz' => ?_
      obtain ⟨a5, g5, n5⟩ := m5.fm D _ a4 g4 n4
      obtain ⟨b, rfl, hb⟩ := key_at (Dq.up (show Dq K G4 u (pD (f a)) from hu) m5.ex)
      refine ⟨b, pk (f a), kvs, rfl, S5.ex _ _ hb, a5, sz_lt (by omega), hlt, G5, ρ5, ((mm.trans m4).trans m5).poke hD a5, S5.poke g5 n5 a5 (fun q z => nomatch z) True.intro, g5, n5, _, upd_same, ?_⟩
      have e : putAll f (fun a => It.dat (g a)) (as.take (i + 1)) = putM (putAll f (fun a => It.dat (g a)) (as.take i)) (f a) (.dat (g a)) := by
        unfold putAll
        rw [List.take_add_one, hai]
        show List.foldl _ _ (_ ++ [a]) = _
        rw [List.foldl_append]
        rfl
      rw [e]
      exact put_at (dm_up (m4.ex.trans m5.ex) (m4.pre.trans m5.pre) hda) hz'
    · have e : i = as.length := by omega
      subst e
      rw [List.take_length] at hda
      exact .inl ⟨by rw [← la]; exact hJ.stop xNo _ _ _ st1 old_no mm.mw S' hok, q _ G' H' ρ' (m1.trans mm) S' ⟨D, rfl, m1.al D hD, gD, nD', ⟨_, ha⟩, (fun q z => by rw [ha] at z; cases z), kvs, ha, hda⟩⟩
/-! dicts that hold the same -/
def fitD (d : PyData) : Bool := match d with
  | .int _ => true
  | .bool _ => true
  | .str _ => true
  | .none => true
  | _ => false
theorem ev_neM {i j : Nat} {m2 : List (P2 × It)} (ha : Ev K ta es st st1 (.ob i)) (hb : Ev K tb es st1 st2 (.ob j)) (hi : st2[i]? = some (.dic m)) (hj : st2[j]? = some (.dic m2)) (hm : m2 = m) (nd : (m.map (·.1)).Nodup) (hf : ∀ b ∈ m, ∃ n, b.2 = .dat (.int n)) : Ev K (tOp Pm.rNeT ta tb) es st st2 (.dat (.bool false)) := .mk fun {G H ρ σ} S T {Q} q =>
  ha.run S T fun u G1 H1 ρ1 m1 S1 hu => hb.run S1 (T.mv m1) fun v G2 H2 ρ2 m2 S2 hv => by
    subst hm
    obtain ⟨p, rfl, hr⟩ := hu
    obtain ⟨k1, hp, d1⟩ := S2.ob i _ p hi (pre_get m2.pre hr)
    obtain ⟨p2, rfl, hr2, k2, hp2, d2⟩ := ob_at S2 hv hj
    have key : ∀ {k1 k2 : List (List Key × V)} {m : List (P2 × It)}, (m.map (·.1)).Nodup → (∀ b ∈ m, ∃ n, b.2 = It.dat (.int n)) → DM K G2 ρ2 k1 m → DM K G2 ρ2 k2 m → k1 = k2 ∧ (k1.map (·.1)).Nodup ∧ (k1.map (·.1) = m.map fun b => pk b.1) ∧ ∀ p ∈ k1, flatB p.2 = true := by
      intro k1 k2 m nd hf h1
      induction h1 generalizing k2 with
      | nil =>
        intro h2
        cases h2
        exact ⟨rfl, List.nodup_nil, rfl, fun _ z => nomatch z⟩
      | @cons a b l r hab t ih =>
        intro h2
        cases h2 with
        | @cons a' _ l' _ hab' t' =>
          rw [List.map_cons, List.nodup_cons] at nd
          obtain ⟨e1, e2, e3, e4⟩ := ih nd.2 (fun b hb => hf b (List.mem_cons_of_mem _ hb)) t'
          obtain ⟨n, hn⟩ := hf b List.mem_cons_self
          have q1 := hab.2
          have q2 := hab'.2
          rw [hn] at q1 q2
          have w1 := dq_int q1
          have w2 := dq_int q2
          refine ⟨?_, ?_, ?_, ?_⟩
          · rw [e1]
            congr 1
            exact Prod.ext (hab.1.trans hab'.1.symm) (w1.trans w2.symm)
          · rw [List.map_cons, List.nodup_cons]
            refine ⟨fun z => nd.1 ?_, e2⟩
            rw [e3, hab.1] at z
            obtain ⟨c, hc, e⟩ := List.mem_map.mp z
            exact List.mem_map.mpr ⟨c, hc, pk_inj e⟩
          · rw [List.map_cons, List.map_cons, e3, hab.1]
          · intro p hp
            rcases List.mem_cons.mp hp with rfl | hp
            · rw [w1]
              rfl
            · exact e4 p hp
    obtain ⟨e1, e2, _, e4⟩ := key nd hf d1 d2
    subst e1
    refine ⟨p, p2, k1, k1, rfl, rfl, hp, hp2, rfl, fun c hc => ⟨?_, e4 c hc⟩, q _ G2 H2 ρ2 (m1.trans m2) S2 (Dq.bl _)⟩
    have val : ∀ {l : List (List Key × V)}, (l.map (·.1)).Nodup → c ∈ l → valV l c.1 = some c.2 := by
      intro l nd hc
      induction l with
      | nil => cases hc
      | cons a l ih =>
        rw [List.map_cons, List.nodup_cons] at nd
        rcases List.mem_cons.mp hc with rfl | hc
        · exact valV_pos rfl
        · rw [valV_neg fun z => nd.1 (List.mem_map.mpr ⟨c, hc, z.symm⟩)]
          exact ih nd.2 hc
    exact val e2 hc
end
/-! ### the law itself -/
abbrev spL (K : PySem.W.Frag) : Sp := spV (α := List Int) K (fun ns => [.dat (.list (ns.map PyData.int))]) (fun ns => ns.length ≤ 63) (fun _ => []) (fun _ => .ret (.dat (.bool true)) [])
theorem law_in' {K : PySem.W.Frag} {H : Hp} {a : Addr} {ns : List Int} (hl : ns.length ≤ 63) (hS : SqL K H a (ns.map V.int)) : spL K [.ref a] H (fun v _ => v = .bl true) fun _ _ _ => False := by
  have S : Sh K H H [] [] := by
    refine ⟨Ex.refl _, fun b o h1 h2 => ?_, rfl, List.nodup_nil, fun p hp => ?_, fun i o p h => ?_⟩
    · rw [h1] at h2
      cases h2
    · cases hp
    · simp at h
  refine ⟨ns, H, [], hl, S, .cons ?_ .nil, fun v G' H' ρ' _ _ hv => dq_bl hv⟩
  refine Dq.lst hS ?_
  clear hl hS
  induction ns with
  | nil => exact .nil
  | cons n ns ih => exact .cons (Dq.int n) ih
end Pv

/-! places, areas, what a rule names -/
namespace Pl
open PySem PySem.Spec L2 Pu Pr
abbrev P2 := Int × Int
def k2 (p : P2) : List Int := [p.1, p.2]
def pD (p : P2) : PyData := .tuple [.int p.1, .int p.2]
theorem pD_tup (p : P2) : pD p = tupD (k2 p) := rfl
def plD (ps : List P2) : List PyData := ps.map pD
theorem plD_imm (ps : List P2) : immAll (plD ps) = true := immAll_iff fun d hd => by
  obtain ⟨p, _, rfl⟩ := List.mem_map.mp hd
  rfl
def areaP (r1 c1 r2 c2 : Int) : List P2 :=
  (List.range (max r1 r2 + 1 - min r1 r2).toNat).flatMap fun i => (List.range (max c1 c2 + 1 - min c1 c2).toNat).map fun j => (min r1 r2 + (i : Nat), min c1 c2 + (j : Nat))
theorem areaP_len (r1 c1 r2 c2 : Int) : (areaP r1 c1 r2 c2).length = (max r1 r2 + 1 - min r1 r2).toNat * (max c1 c2 + 1 - min c1 c2).toNat := by
  unfold areaP
  rw [List.length_flatMap]
  simp only [List.length_map, List.length_range]
  rw [List.map_const', List.length_range, List.sum_replicate_nat]
theorem mem_area {r1 c1 r2 c2 : Int} {p : P2} : p ∈ areaP r1 c1 r2 c2 ↔ (min r1 r2 ≤ p.1 ∧ p.1 ≤ max r1 r2) ∧ min c1 c2 ≤ p.2 ∧ p.2 ≤ max c1 c2 := by
  unfold areaP
  rw [List.mem_flatMap]
  constructor
  · rintro ⟨i, hi, hp⟩
    obtain ⟨j, hj, rfl⟩ := List.mem_map.mp hp
    rw [List.mem_range] at hi hj
    show (min r1 r2 ≤ min r1 r2 + (i : Nat) ∧ min r1 r2 + (i : Nat) ≤ max r1 r2) ∧ min c1 c2 ≤ min c1 c2 + (j : Nat) ∧ min c1 c2 + (j : Nat) ≤ max c1 c2
    omega
  · obtain ⟨x, y⟩ := p
    rintro ⟨⟨h1, h2⟩, h3, h4⟩
    have h1 : min r1 r2 ≤ x := h1
    have h2 : x ≤ max r1 r2 := h2
    have h3 : min c1 c2 ≤ y := h3
    have h4 : y ≤ max c1 c2 := h4
    refine ⟨(x - min r1 r2).toNat, List.mem_range.mpr (by omega), List.mem_map.mpr ⟨(y - min c1 c2).toNat, List.mem_range.mpr (by omega), ?_⟩⟩
    refine Prod.ext ?_ ?_
    · show min r1 r2 + ((x - min r1 r2).toNat : Int) = x
      omega
    · show min c1 c2 + ((y - min c1 c2).toNat : Int) = y
      omega
theorem rngD_flat (lo : Int) (n : Nat) (lo2 : Int) (m : Nat) : ((rngD lo n).flatMap fun d => (rngD lo2 m).map fun d1 => PyData.tuple [d, d1]) = plD ((List.range n).flatMap fun i => (List.range m).map fun j => (lo + (i : Nat), lo2 + (j : Nat))) := by
  unfold rngD plD
  rw [List.flatMap_map, List.map_flatMap]
  congr 1
  funext i
  rw [List.map_map, List.map_map]
  rfl
/-- two numbers, and more behind them -/
structure Cor where
  r : Int
  c : Int
  x : List PyData
def Cor.d (a : Cor) : PyData := .tuple (.int a.r :: .int a.c :: a.x)
def cor (x : Rf) : Cor := ⟨x.r, x.c, [.bool x.rs, .bool x.cs]⟩
theorem cor_d (x : Rf) : (cor x).d = x.d := rfl
/-! ### a rule's own references, its places -/
def refs : Rl → List Rf
  | .num _ => []
  | .cell p => [p]
  | .add _ _ => []
  | .sub _ _ => []
  | .mul _ _ => []
  | .pick _ _ _ => []
  | .sum p q => [p, q]
  | .most p q => [p, q]
  | .look _ p q _ => [p, q]
def named : Rl → List P2
  | .num _ => []
  | .cell p => areaP p.r p.c p.r p.c
  | .add _ _ => []
  | .sub _ _ => []
  | .mul _ _ => []
  | .pick _ _ _ => []
  | .sum p q => areaP p.r p.c q.r q.c
  | .most p q => areaP p.r p.c q.r q.c
  | .look _ p q _ => areaP p.r p.c q.r q.c
def btw (x y : Rf) (p : P2) : Bool := (decide (min x.r y.r ≤ p.1) && decide (p.1 ≤ max x.r y.r)) && (decide (min x.c y.c ≤ p.2) && decide (p.2 ≤ max x.c y.c))
def names : Rl → P2 → Bool
  | .num _, _ => false
  | .cell x, p => decide (x.r = p.1 ∧ x.c = p.2)
  | .add a b, p => names a p || names b p
  | .sub a b, p => names a p || names b p
  | .mul a b, p => names a p || names b p
  | .pick a b c, p => names a p || (names b p || names c p)
  | .sum x y, p => btw x y p
  | .most x y, p => btw x y p
  | .look a x y b, p => btw x y p || (names a p || names b p)
theorem btw_iff {x y : Rf} {p : P2} : btw x y p = true ↔ p ∈ areaP x.r x.c y.r y.c := by
  unfold btw
  rw [mem_area]
  simp
theorem cell_iff {x : Rf} {p : P2} : p ∈ areaP x.r x.c x.r x.c ↔ x.r = p.1 ∧ x.c = p.2 := by
  rw [mem_area]
  omega
theorem names_iff (r : Rl) (p : P2) : names r p = true ↔ ∃ o ∈ r.outer, p ∈ named o := by
  induction r with
  | num n => simp [names, Rl.outer, named]
  | cell x => simp [names, Rl.outer, named, cell_iff]
  | sum x y => simp [names, Rl.outer, named, btw_iff]
  | most x y => simp [names, Rl.outer, named, btw_iff]
  | add a b h1 h2 => simp only [names, Rl.outer, named, Bool.or_eq_true, h1, h2, List.mem_cons, List.mem_append, or_and_right, exists_or, exists_eq_left, List.not_mem_nil, false_or]; exact or_comm
  | sub a b h1 h2 => simp only [names, Rl.outer, named, Bool.or_eq_true, h1, h2, List.mem_cons, List.mem_append, or_and_right, exists_or, exists_eq_left, List.not_mem_nil, false_or]; exact or_comm
  | mul a b h1 h2 => simp only [names, Rl.outer, named, Bool.or_eq_true, h1, h2, List.mem_cons, List.mem_append, or_and_right, exists_or, exists_eq_left, List.not_mem_nil, false_or]; exact or_comm
  | pick a b c h1 h2 h3 =>
    simp only [names, Rl.outer, named, Bool.or_eq_true, h1, h2, h3, List.mem_cons, List.mem_append, or_and_right, exists_or, exists_eq_left, List.not_mem_nil, false_or]
    constructor
    · rintro (h | h | h)
      · exact .inr (.inr h)
      · exact .inr (.inl h)
      · exact .inl h
    · rintro (h | h | h)
      · exact .inr (.inr h)
      · exact .inr (.inl h)
      · exact .inl h
  | look a x y b h1 h2 =>
    simp only [names, Rl.outer, named, Bool.or_eq_true, h1, h2, btw_iff, List.mem_cons, List.mem_append, or_and_right, exists_or, exists_eq_left]
    constructor
    · rintro (h | h | h)
      · exact .inl h
      · exact .inr (.inr h)
      · exact .inr (.inl h)
    · rintro (h | h | h)
      · exact .inl h
      · exact .inr (.inr h)
      · exact .inr (.inl h)
/-! ### how deep -/
def dp : Rl → Nat
  | .num _ => 1
  | .cell _ => 1
  | .add a b => max (dp a) (dp b) + 1
  | .sub a b => max (dp a) (dp b) + 1
  | .mul a b => max (dp a) (dp b) + 1
  | .pick a b c => max (dp a) (max (dp b) (dp c)) + 1
  | .sum _ _ => 1
  | .most _ _ => 1
  | .look a _ _ b => max (dp a) (dp b) + 1
def mx (L : List Rl) : Nat := L.foldr (fun r m => max (dp r) m) 0
theorem mx_nil : mx [] = 0 := rfl
theorem mx_cons (r : Rl) (L : List Rl) : mx (r :: L) = max (dp r) (mx L) := rfl
theorem mx_app (L M : List Rl) : mx (L ++ M) = max (mx L) (mx M) := by
  induction L with
  | nil => rw [List.nil_append, mx_nil]; omega
  | cons r L ih => rw [List.cons_append, mx_cons, mx_cons, ih]; omega
theorem dp_inner (r : Rl) : dp r = mx r.inner + 1 := by
  cases r <;> simp only [dp, Rl.inner, mx_cons, mx_nil] <;> omega
theorem mx_flat (r : Rl) (L : List Rl) : mx (r :: L) = mx ((r :: L).flatMap Rl.inner) + 1 := by
  induction L generalizing r with
  | nil => rw [mx_cons, mx_nil, List.flatMap_singleton, dp_inner]; omega
  | cons s L ih =>
    rw [mx_cons, ih s, List.flatMap_cons (x := r), mx_app, dp_inner r]
    omega
theorem sz_flat (L : List Rl) : ((L.flatMap Rl.inner).map Rl.size).sum + L.length = (L.map Rl.size).sum := by
  induction L with
  | nil => rfl
  | cons r L ih =>
    rw [List.flatMap_cons, List.map_append, List.sum_append, List.map_cons, List.sum_cons, List.length_cons, Rl.size_inner r]
    omega
/-! ### the places that there are -/
structure Bx where
  h : Nat
  w : Nat
  a : Int
  b : Int
def Bx.ps (B : Bx) : List P2 := (List.range (B.h * B.w)).map fun k => (((k / B.w : Nat) : Int) + B.a, ((k % B.w : Nat) : Int) + B.b)
def Bx.has (B : Bx) (r c : Int) : Prop := B.a ≤ r ∧ r < B.a + B.h ∧ B.b ≤ c ∧ c < B.b + B.w
/-- a sheet of these laws -/
structure Bx.Ok (B : Bx) : Prop where
  hw : 0 < B.w
  few : B.h * B.w < 63
  lo : -100 ≤ B.b
  hi : B.b ≤ 100
  w2 : B.w ≤ 100
theorem Bx.mem {B : Bx} (hw : 0 < B.w) {p : P2} : p ∈ B.ps ↔ B.has p.1 p.2 := by
  unfold Bx.ps Bx.has
  rw [List.mem_map]
  constructor
  · rintro ⟨k, hk, rfl⟩
    rw [List.mem_range] at hk
    have h1 : k / B.w < B.h := (Nat.div_lt_iff_lt_mul hw).mpr hk
    have h2 := Nat.mod_lt k hw
    show B.a ≤ ((k / B.w : Nat) : Int) + B.a ∧ ((k / B.w : Nat) : Int) + B.a < B.a + B.h ∧ B.b ≤ ((k % B.w : Nat) : Int) + B.b ∧ ((k % B.w : Nat) : Int) + B.b < B.b + B.w
    generalize k / B.w = u at h1 ⊢
    generalize k % B.w = v at h2 ⊢
    omega
  · obtain ⟨x, y⟩ := p
    rintro ⟨h1, h2, h3, h4⟩
    have h1 : B.a ≤ x := h1
    have h2 : x < B.a + B.h := h2
    have h3 : B.b ≤ y := h3
    have h4 : y < B.b + B.w := h4
    obtain ⟨i, rfl⟩ : ∃ i : Nat, x = B.a + i := ⟨(x - B.a).toNat, by omega⟩
    obtain ⟨j, rfl⟩ : ∃ j : Nat, y = B.b + j := ⟨(y - B.b).toNat, by omega⟩
    have hj : j < B.w := by omega
    have hi : i < B.h := by omega
    refine ⟨B.w * i + j, List.mem_range.mpr ?_, ?_⟩
    · have : B.w * (i + 1) ≤ B.w * B.h := Nat.mul_le_mul_left _ hi
      rw [Nat.mul_add, Nat.mul_one] at this
      rw [Nat.mul_comm B.h B.w]
      omega
    · rw [Nat.mul_add_div hw, Nat.div_eq_of_lt hj, Nat.mul_add_mod, Nat.mod_eq_of_lt hj]
      refine Prod.ext ?_ ?_
      · show ((i + 0 : Nat) : Int) + B.a = B.a + i
        omega
      · show ((j : Nat) : Int) + B.b = B.b + j
        omega
theorem Bx.pr {B : Bx} (ok : B.Ok) {p : P2} (h : B.has p.1 p.2) : Pr2 (k2 p) := by
  obtain ⟨h1, h2, h3, h4⟩ := h
  have := ok.lo
  have := ok.hi
  have := ok.w2
  exact ⟨p.1, p.2, rfl, by omega, by omega⟩
theorem Bx.sorted {B : Bx} (ok : B.Ok) : (B.ps.map k2).Pairwise fun a b => rk2 a < rk2 b := by
  unfold Bx.ps
  rw [List.map_map, List.pairwise_map]
  refine List.Pairwise.imp_of_mem (fun {i j} _ _ hij => ?_) List.pairwise_lt_range
  show (((i / B.w : Nat) : Int) + B.a) * 1000 + (((i % B.w : Nat) : Int) + B.b) < (((j / B.w : Nat) : Int) + B.a) * 1000 + (((j % B.w : Nat) : Int) + B.b)
  have hw := ok.hw
  have w2 := ok.w2
  have d1 := Nat.div_add_mod i B.w
  have d2 := Nat.div_add_mod j B.w
  have m1 := Nat.mod_lt i hw
  have le : i / B.w ≤ j / B.w := Nat.div_le_div_right (Nat.le_of_lt hij)
  by_cases e : i / B.w = j / B.w
  · rw [e] at d1 ⊢
    omega
  · omega
def inb (B : Bx) : Rl → Prop
  | .num _ => True
  | .cell p => B.has p.r p.c
  | .add a b => inb B a ∧ inb B b
  | .sub a b => inb B a ∧ inb B b
  | .mul a b => inb B a ∧ inb B b
  | .pick a b c => inb B a ∧ inb B b ∧ inb B c
  | .sum p q => B.has p.r p.c ∧ B.has q.r q.c
  | .most p q => B.has p.r p.c ∧ B.has q.r q.c
  | .look a p q b => inb B a ∧ B.has p.r p.c ∧ B.has q.r q.c ∧ inb B b
theorem inb_outer {B : Bx} {r : Rl} (h : inb B r) : ∀ o ∈ r.outer, inb B o := by
  induction r with
  | num n => simp [Rl.outer, h]
  | cell x => simp [Rl.outer, h]
  | sum x y => simp [Rl.outer, h]
  | most x y => simp [Rl.outer, h]
  | add a b h1 h2 =>
    intro o ho
    rcases List.mem_cons.mp ho with rfl | ho
    · exact h
    · exact (List.mem_append.mp ho).elim (h2 h.2 o) (h1 h.1 o)
  | sub a b h1 h2 =>
    intro o ho
    rcases List.mem_cons.mp ho with rfl | ho
    · exact h
    · exact (List.mem_append.mp ho).elim (h2 h.2 o) (h1 h.1 o)
  | mul a b h1 h2 =>
    intro o ho
    rcases List.mem_cons.mp ho with rfl | ho
    · exact h
    · exact (List.mem_append.mp ho).elim (h2 h.2 o) (h1 h.1 o)
  | pick a b c h1 h2 h3 =>
    intro o ho
    rcases List.mem_cons.mp ho with rfl | ho
    · exact h
    · exact (List.mem_append.mp ho).elim (h3 h.2.2 o) fun ho => (List.mem_append.mp ho).elim (h2 h.2.1 o) (h1 h.1 o)
  | look a x y b h1 h2 =>
    intro o ho
    rcases List.mem_cons.mp ho with rfl | ho
    · exact h
    · exact (List.mem_append.mp ho).elim (h2 h.2.2.2 o) (h1 h.1 o)
theorem area_in {B : Bx} {r1 c1 r2 c2 : Int} (h1 : B.has r1 c1) (h2 : B.has r2 c2) {p : P2} (h : p ∈ areaP r1 c1 r2 c2) : B.has p.1 p.2 := by
  rw [mem_area] at h
  unfold Bx.has at *
  omega
theorem named_in {B : Bx} {o : Rl} (h : inb B o) {p : P2} (hp : p ∈ named o) : B.has p.1 p.2 := by
  cases o with
  | cell x => exact area_in h h hp
  | sum x y => exact area_in h.1 h.2 hp
  | most x y => exact area_in h.1 h.2 hp
  | look a x y b => exact area_in h.2.1 h.2.2.1 hp
  | _ => cases hp
theorem area_few {B : Bx} (ok : B.Ok) {r1 c1 r2 c2 : Int} (h1 : B.has r1 c1) (h2 : B.has r2 c2) : (areaP r1 c1 r2 c2).length ≤ 50000 := by
  rw [areaP_len]
  have e1 : (max r1 r2 + 1 - min r1 r2).toNat ≤ B.h := by unfold Bx.has at *; omega
  have e2 : (max c1 c2 + 1 - min c1 c2).toNat ≤ B.w := by unfold Bx.has at *; omega
  have := Nat.mul_le_mul e1 e2
  have := ok.few
  omega
theorem named_few {B : Bx} (ok : B.Ok) {o : Rl} (h : inb B o) : (named o).length ≤ 50000 := by
  cases o with
  | cell x => exact area_few ok h h
  | sum x y => exact area_few ok h.1 h.2
  | most x y => exact area_few ok h.1 h.2
  | look a x y b => exact area_few ok h.2.1 h.2.2.1
  | _ => exact Nat.zero_le _
/-- what a rule needs, rising -/
def need (B : Bx) (r : Rl) : List P2 := B.ps.filter (names r)
theorem need_sorted {B : Bx} (ok : B.Ok) (r : Rl) : ((need B r).map k2).Pairwise fun a b => rk2 a < rk2 b :=
  (B.sorted ok).sublist (List.filter_sublist.map k2)
theorem k2_inj {p q : P2} (h : k2 p = k2 q) : p = q := by
  obtain ⟨a, b⟩ := p
  obtain ⟨c, d⟩ := q
  unfold k2 at h
  simp at h
  exact Prod.ext h.1 h.2
theorem need_mem {B : Bx} (ok : B.Ok) {r : Rl} (h : inb B r) (k : List Int) : k ∈ (need B r).map k2 ↔ ∃ o ∈ r.outer, ∃ p ∈ named o, k2 p = k := by
  constructor
  · intro hk
    obtain ⟨p, hp, rfl⟩ := List.mem_map.mp hk
    obtain ⟨_, hn⟩ := List.mem_filter.mp hp
    obtain ⟨o, ho, hq⟩ := (names_iff r p).mp hn
    exact ⟨o, ho, p, hq, rfl⟩
  · rintro ⟨o, ho, p, hp, rfl⟩
    refine List.mem_map.mpr ⟨p, List.mem_filter.mpr ⟨(Bx.mem ok.hw).mpr (named_in (inb_outer h o ho) hp), (names_iff r p).mpr ⟨o, ho, hp⟩⟩, rfl⟩
end Pl

/-! what the defs of all laws share: rules as data, over the second layer -/
namespace Pq
open PySem PySem.Spec L2 Pr Pl Pv
open Evl (Ex rLenS rMax2 rListS)
open PyProof.Rows (envOfC)
section
variable {P : Program} {w : World} {K : PySem.W.Frag} {mg : Str → Option Value} {base : Heap}
abbrev dats (ds : List PyData) : Rv := .fr (.lst (ds.map It.dat))
theorem get0 {st : List Ob} {a b : Ob} : (st ++ [a, b])[st.length]? = some a := by simp
theorem get1 {st : List Ob} {a b : Ob} : (st ++ [a, b])[st.length + 1]? = some b := by simp
theorem set0 {st : List Ob} {a b c : Ob} : (st ++ [a, b]).set st.length c = st ++ [c, b] := by simp
theorem set1 {st : List Ob} {a b c : Ob} : (st ++ [a, b]).set (st.length + 1) c = st ++ [a, c] := by simp
abbrev its (L : List Rl) : List Pv.It := (L.map Rl.d).map It.dat
theorem its_ap (L M : List Rl) : its (L ++ M) = its L ++ its M := by
  show ((L ++ M).map Rl.d).map It.dat = _
  rw [List.map_append, List.map_append]
theorem its_ln (L : List Rl) : (its L).length = L.length := by
  show ((L.map Rl.d).map It.dat).length = _
  rw [List.length_map, List.length_map]
def mv (x : Rf) (dn rt : Int) : Rf := ⟨if x.rs then x.r else x.r + dn, if x.cs then x.c else x.c + rt, x.rs, x.cs⟩
def sh (dn rt : Int) : Rl → Rl
  | .num n => .num n
  | .cell p => .cell (mv p dn rt)
  | .add a b => .add (sh dn rt a) (sh dn rt b)
  | .sub a b => .sub (sh dn rt a) (sh dn rt b)
  | .mul a b => .mul (sh dn rt a) (sh dn rt b)
  | .pick a b c => .pick (sh dn rt a) (sh dn rt b) (sh dn rt c)
  | .sum p q => .sum (mv p dn rt) (mv q dn rt)
  | .most p q => .most (mv p dn rt) (mv q dn rt)
  | .look a p q b => .look (sh dn rt a) (mv p dn rt) (mv q dn rt) (sh dn rt b)
theorem getA {st g : List Ob} {a : Ob} : (st ++ a :: g)[st.length]? = some a := by simp
theorem setA {st g : List Ob} {a c : Ob} : (st ++ a :: g).set st.length c = st ++ c :: g := by simp
theorem getP {st g : List Ob} {a p : Ob} : (st ++ a :: (g ++ [p]))[st.length + (1 + g.length)]? = some p := by
  rw [List.getElem?_append_right (Nat.le_add_right _ _), Nat.add_sub_cancel_left, Nat.add_comm, List.getElem?_cons_succ, List.getElem?_append_right (Nat.le_refl _), Nat.sub_self]
  rfl
theorem setP {st g : List Ob} {a p c : Ob} : (st ++ a :: (g ++ [p])).set (st.length + (1 + g.length)) c = st ++ a :: (g ++ [c]) := by
  rw [List.set_append_right _ _ (Nat.le_add_right _ _), Nat.add_sub_cancel_left, Nat.add_comm, List.set_cons_succ, List.set_append_right _ _ (Nat.le_refl _), Nat.sub_self]
  rfl
theorem ei_revD {es : Es} {st st1 : List Ob} {tb : TE} {a : Addr} {z : Str} {ns : List Int} (hb : Ev K tb es st st1 (.dat (.str z))) (h : Pu.DTab K w a z ns) : EvI K (RT.iRevA K (tOp (rIxD K w) (tC (.ref a)) tb)) es st st1 all ((ns.map PyData.int).map It.dat).reverse := .mk fun {G H ρ σ} S T {R} q => hb.run S T fun v G1 H1 ρ1 m1 S1 hv => by
  obtain ⟨t, hk, ht⟩ := h
  have sq : ∀ {H : Hp}, SqT K H t (ns.map V.int) := .inr ht
  have its : ∀ {G : Hp} {ρ : List Addr}, Its K G ρ (ns.map V.int) ((ns.map PyData.int).map It.dat) := by
    intro G ρ
    clear q hk ht sq
    induction ns with
    | nil => exact .nil
    | cons n ns ih => exact .cons (Dq.int n) ih
  have l : (ns.map V.int).length = ((ns.map PyData.int).map It.dat).length := by rw [List.length_map, List.length_map, List.length_map]
  refine ⟨a, z, .ref t, rfl, dq_str hv, hk, t, _, rfl, .inr ⟨sq, q _ G1 H1 ρ1 m1 S1 ⟨fun X i G' H' ρ' s o m S z hi => ?_, fun X i v G' H' H'' ρ' s o m S z hi y => ?_, fun X G' H' ρ' s o m S z => by rw [List.length_reverse, l]; exact Nat.le_refl _⟩⟩⟩
  · rw [List.length_reverse, ← l] at hi
    exact ⟨hi, _, _, sq, List.getElem?_eq_getElem (by omega)⟩
  · obtain ⟨e1, y⟩ := y
    rw [List.length_reverse] at hi
    obtain ⟨w, hw, hx⟩ := its_at (its (G := G') (ρ := ρ')) (i := ((ns.map PyData.int).map It.dat).length - 1 - i) (List.getElem?_eq_getElem (by omega))
    have := y _ sq
    rw [l, hw] at this
    cases this
    exact ⟨e1, _, by rw [Pu.rev_get hi, List.getElem?_eq_getElem (by omega)], hx⟩
theorem ei_pl {es : Es} {st st1 : List Ob} {te : TE} {ps : List Pl.P2} (h : Ev K te es st st1 (dats (plD ps))) : EvI K (iList K te) es st st1 all (ps.map fun p => It.dat (Pl.pD p)) := by
  have q := ei_fr h
  unfold plD at q
  rw [List.map_map] at q
  exact q
theorem ei_rl {es : Es} {st st1 : List Ob} {te : TE} {L : List Rl} (h : Ev K te es st st1 (dats (L.map Rl.d))) : EvI K (iList K te) es st st1 all (L.map fun r => It.dat r.d) := by
  have q := ei_fr h
  rw [List.map_map] at q
  exact q
theorem ev_list {es : Es} {st : List Ob} {i : Nat} {L : List Rl} (h : es[i]? = some (.dat (.list (L.map Rl.d)))) : EvI K (iList K (tVar i)) es st st all (L.map fun r => It.dat r.d) := by
  have q := ei_list (K := K) (st := st) (ev_var h)
  rw [List.map_map] at q
  exact q
/-! what is left to do, over what is done: each item takes what its inner ones have left -/
def Stk {β : Type} (f : Rl → β) (R : β) : List Rl → List β → Prop
  | [], st => st = [R]
  | n :: rem, st => ∃ T, st = T ++ n.inner.map f ∧ Stk f R rem (T ++ [f n])
theorem stk_outer {β : Type} (f : Rl → β) (R : β) (r : Rl) : ∀ rem st, Stk f R rem (st ++ [f r]) → Stk f R (r.outer.reverse ++ rem) st := by
  have base : ∀ (r : Rl), r.inner = [] → ∀ rem st, Stk f R rem (st ++ [f r]) → Stk f R ([r] ++ rem) st := fun r hi rem st h => ⟨st, by rw [hi]; simp, h⟩
  have two : ∀ (r a b : Rl), r.inner = [a, b] → (∀ rem st, Stk f R rem (st ++ [f a]) → Stk f R (a.outer.reverse ++ rem) st) → (∀ rem st, Stk f R rem (st ++ [f b]) → Stk f R (b.outer.reverse ++ rem) st) →
      ∀ rem st, Stk f R rem (st ++ [f r]) → Stk f R (a.outer.reverse ++ (b.outer.reverse ++ (r :: rem))) st := fun r a b hi ha hb rem st h => by
    refine ha _ _ (hb _ _ ⟨st, ?_, h⟩)
    rw [hi]
    simp
  induction r with
  | num n => exact base _ rfl
  | cell p => exact base _ rfl
  | sum p q => exact base _ rfl
  | most p q => exact base _ rfl
  | add a b ha hb => intro rem st h; simpa [Rl.outer] using two _ a b rfl ha hb rem st h
  | sub a b ha hb => intro rem st h; simpa [Rl.outer] using two _ a b rfl ha hb rem st h
  | mul a b ha hb => intro rem st h; simpa [Rl.outer] using two _ a b rfl ha hb rem st h
  | look a p q b ha hb => intro rem st h; simpa [Rl.outer] using two _ a b rfl ha hb rem st h
  | pick a b c ha hb hc =>
    intro rem st h
    have q : Stk f R (a.outer.reverse ++ (b.outer.reverse ++ (c.outer.reverse ++ (Rl.pick a b c :: rem)))) st := by
      refine ha _ _ (hb _ _ (hc _ _ ⟨st, ?_, h⟩))
      simp [Rl.inner]
    simpa [Rl.outer] using q
theorem stk_all {β : Type} (f : Rl → β) (r : Rl) : Stk f (f r) r.outer.reverse [] := by
  have q := stk_outer f (f r) r [] [] rfl
  rwa [List.append_nil] at q
/-! defs that leave the store as it is, what they want of it told -/
abbrev spQ {α : Type} (K : PySem.W.Frag) (args : α → List Pv.It) (pre : List Ob → α → Prop) (res : α → Rv) : Sp := spV (α := List Ob × α) K (fun a => args a.2) (fun a => pre a.1 a.2) (fun a => a.1) (fun a => .ret (res a.2) a.1)
theorem eq_call {α : Type} {args : α → List Pv.It} {pre : List Ob → α → Prop} {res : α → Rv} {es : Es} {st st1 : List Ob} {ts : TA} {E : XK} (a : α) (h : EvA K ts es st st1 (args a)) (hp : pre st1 a) : Ev K (tCall (spQ K args pre res) [] E ts) es st st1 (res a) :=
  ev_call (α := List Ob × α) (args := fun a => args a.2) (pre := fun a => pre a.1 a.2) (stf := fun a => a.1) (out := fun a => .ret (res a.2) a.1) (st1, a) h hp rfl
theorem fn_q {α : Type} {args : α → List Pv.It} {pre : List Ob → α → Prop} {res : α → Rv} {x qual : Str} {st0 : Stmt} {f : Addr} {fd : FuncData} {N ps : List Str} {k : Nat} (F : Fun K x qual st0 f fd) (S : FnScope N ps (defScope st0)) (hl : ∀ a, (args a).length = ps.length)
    (h : ∀ (cdv : Value) (A : Around) (outer : List Env) (s : Shared) (H : Hp) (E : XK), Room k (A.deeper (envOfC qual (defScope st0) s.heap.objs.size f cdv)) →
      ∃ t, PSs (cxOf CX0 P w K mg base N qual (defScope st0) f cdv A outer s H E).nox (defBody st0) t ∧ ∀ a st, pre st a → Ws K (cW E) t (startE N (args a)) st (postP st (res a))) :
    FnOk P w K mg base CX0 (k + 1) f fd ps (spQ K args pre res) := by
  refine F.ok S (fun vs H Q E ⟨a, G, ρ, _, _, hv, _⟩ => by rw [its_len hv, hl]) (fun cdv A outer s H vs Q E hr hsp => ?_)
  obtain ⟨⟨st, a⟩, G, ρ, hp, Sa, hv, q⟩ := hsp
  obtain ⟨t, ht, hw⟩ := h cdv A outer s H E hr
  have ok : okSt st = true := okSt_of Sa
  have D := dk_fn (by rw [Sa.len]; exact Nat.le_refl _) q
  refine ⟨t, ht, (hw a st hp).run Sa (se_start hv) ⟨fun G' H' ρ' σ' es' s hn m S' T' => ?_, fun _ _ _ _ _ _ z => z.elim, fun _ _ _ _ _ _ z => z.elim, fun v G' H' ρ' r s hn m S' hv' => ?_, fun _ _ _ _ _ _ _ z => z.elim⟩⟩
  · obtain ⟨ex, e, z⟩ := hn
    exact D.nx G' H' ρ' σ' es' s ⟨ex, e, ok, z⟩ m S' T'
  · obtain ⟨ex, e, z⟩ := hn
    exact D.rt v G' H' ρ' r s ⟨ex, e, ok, z⟩ m S' hv'
theorem endX {st ex : List Ob} {d : PyData} : EndP st (.dat d) (.dat d) (st ++ ex) := ⟨ex, rfl, .inl ⟨rfl, rfl⟩⟩
end
end Pq

/-! what a rule tells: plain functions -/
namespace Pq
open PySem PySem.Spec L2 Pr Pl Pv
abbrev MM : Int := 1000000000
/-- the greatest of some -/
def mxI : List Int → Int
  | [] => 0
  | n :: ns => ns.foldl max n
theorem foldl_max (ns : List Int) : ∀ n : Int, (ns.foldl max n = n ∨ ns.foldl max n ∈ ns) ∧ n ≤ ns.foldl max n ∧ ∀ y ∈ ns, y ≤ ns.foldl max n := by
  induction ns with
  | nil => intro n; exact ⟨.inl rfl, Int.le_refl _, fun _ h => nomatch h⟩
  | cons m ns ih =>
    intro n
    obtain ⟨h1, h2, h3⟩ := ih (max n m)
    rw [List.foldl_cons]
    refine ⟨?_, by omega, fun y hy => ?_⟩
    · rcases h1 with h1 | h1
      · rcases Int.le_total n m with z | z
        · rw [h1, Int.max_eq_right z]
          exact .inr List.mem_cons_self
        · rw [h1, Int.max_eq_left z]
          exact .inl rfl
      · exact .inr (List.mem_cons_of_mem _ h1)
    · rcases List.mem_cons.mp hy with rfl | hy
      · omega
      · exact h3 y hy
theorem mxI_mem {ns : List Int} (h : ns ≠ []) : mxI ns ∈ ns := by
  cases ns with
  | nil => exact absurd rfl h
  | cons n ns =>
    rcases (foldl_max ns n).1 with z | z
    · show ns.foldl max n ∈ _
      rw [z]
      exact List.mem_cons_self
    · exact List.mem_cons_of_mem _ z
theorem mxI_le {ns : List Int} : ∀ y ∈ ns, y ≤ mxI ns := by
  cases ns with
  | nil => exact fun _ h => nomatch h
  | cons n ns =>
    intro y hy
    obtain ⟨_, h2, h3⟩ := foldl_max ns n
    rcases List.mem_cons.mp hy with rfl | hy
    · exact h2
    · exact h3 y hy
/-- the rows from a to b -/
def lane (a b : Int) : List Int := (List.range (b + 1 - a).toNat).map fun i => a + (i : Nat)
theorem lane_len (a b : Int) : (lane a b).length = (b + 1 - a).toNat := by
  unfold lane
  rw [List.length_map, List.length_range]
theorem mem_lane {a b r : Int} : r ∈ lane a b ↔ a ≤ r ∧ r ≤ b := by
  unfold lane
  rw [List.mem_map]
  constructor
  · rintro ⟨i, hi, rfl⟩
    have := List.mem_range.mp hi
    omega
  · rintro ⟨h1, h2⟩
    exact ⟨(r - a).toNat, List.mem_range.mpr (by omega), by omega⟩
theorem rngD_lane (a b : Int) : Pu.rngD a (b + 1 - a).toNat = (lane a b).map PyData.int := by
  unfold Pu.rngD lane
  rw [List.map_map]
  rfl
def lookF (kn : Pv.P2 → Int) (c1 c2 s : Int) : List Int → Int → Int
  | [], o => o
  | r :: rs, o => if kn (r, c1) = s then kn (r, c2) else lookF kn c1 c2 s rs o
def looks (kn : Pv.P2 → Int) (p q : Rf) (s o : Int) : Int := lookF kn (min p.c q.c) (max p.c q.c) s (lane (min p.r q.r) (max p.r q.r)) o
abbrev areaR (p q : Rf) : List Pv.P2 := areaP p.r p.c q.r q.c
def kM (kn : Pv.P2 → Int) : Pv.P2 → Int := fun p => kn p % MM
/-- what a rule comes to by what its inner ones tell -/
def comes (kn : Pv.P2 → Int) (r : Rl) (i0 i1 i2 : Int) : Int := match r with
  | .num n => n
  | .cell p => kM kn (p.r, p.c)
  | .add _ _ => i0 + i1
  | .sub _ _ => i0 - i1
  | .mul _ _ => i0 * i1
  | .pick _ _ _ => if i0 = 0 then i2 else i1
  | .sum p q => ((areaR p q).map (kM kn)).sum
  | .most p q => mxI ((areaR p q).map (kM kn))
  | .look _ p q _ => looks (kM kn) p q i0 i1
def tell (kn : Pv.P2 → Int) : Rl → Int
  | .num n => n % MM
  | .cell p => kM kn (p.r, p.c) % MM
  | .add a b => (tell kn a + tell kn b) % MM
  | .sub a b => (tell kn a - tell kn b) % MM
  | .mul a b => (tell kn a * tell kn b) % MM
  | .pick a b c => (if tell kn a = 0 then tell kn c else tell kn b) % MM
  | .sum p q => ((areaR p q).map (kM kn)).sum % MM
  | .most p q => mxI ((areaR p q).map (kM kn)) % MM
  | .look a p q b => looks (kM kn) p q (tell kn a) (tell kn b) % MM
theorem tell_rg (kn : Pv.P2 → Int) (r : Rl) : 0 ≤ tell kn r ∧ tell kn r < MM := by
  cases r <;> exact ⟨Int.emod_nonneg _ (by decide), Int.emod_lt_of_pos _ (by decide)⟩
theorem comes_tell (kn : Pv.P2 → Int) (r : Rl) (l : List Int) (h : l = r.inner.map (tell kn)) : comes kn r (l.getD 0 0) (l.getD 1 0) (l.getD 2 0) % MM = tell kn r := by
  subst h
  cases r <;> rfl
theorem area_ne (p q : Rf) : areaR p q ≠ [] := fun h => by
  have := areaP_len p.r p.c q.r q.c
  rw [show areaP p.r p.c q.r q.c = [] from h] at this
  have e1 : 0 < (max p.r q.r + 1 - min p.r q.r).toNat := by omega
  have e2 : 0 < (max p.c q.c + 1 - min p.c q.c).toNat := by omega
  have := Nat.mul_pos e1 e2
  simp at *
  omega
theorem area_eq (r1 c1 r2 c2 : Int) : areaP r1 c1 r2 c2 = (lane (min r1 r2) (max r1 r2)).flatMap fun r => (lane (min c1 c2) (max c1 c2)).map fun c => (r, c) := by
  unfold areaP lane
  rw [List.flatMap_map]
  congr 1
  funext i
  rw [List.map_map]
  rfl
theorem lane_nodup (a b : Int) : (lane a b).Nodup := by
  unfold lane
  exact List.Pairwise.map _ (fun x y h z => h (by omega)) List.nodup_range
theorem area_nodup (r1 c1 r2 c2 : Int) : (areaP r1 c1 r2 c2).Nodup := by
  rw [area_eq]
  refine List.pairwise_flatMap.mpr ⟨fun r _ => List.Pairwise.map _ (fun x y h z => h (by cases z; rfl)) (lane_nodup _ _), ?_⟩
  refine (lane_nodup _ _).imp fun {x y} h p hp q hq z => ?_
  obtain ⟨_, _, rfl⟩ := List.mem_map.mp hp
  obtain ⟨_, _, rfl⟩ := List.mem_map.mp hq
  cases z
  exact h rfl
theorem lane_head {a b : Int} (h : a ≤ b) : (lane a b)[0]? = some a := by
  unfold lane
  rw [List.getElem?_map, List.getElem?_range (by omega)]
  simp
theorem lane_last {a b : Int} (h : a ≤ b) : (lane a b).getLast? = some b := by
  unfold lane
  rw [List.getLast?_map, List.getLast?_range, if_neg (by omega)]
  simp
  omega
theorem area_head (r1 c1 r2 c2 : Int) : (areaP r1 c1 r2 c2)[0]? = some (min r1 r2, min c1 c2) := by
  rw [area_eq]
  have h1 := lane_head (show min r1 r2 ≤ max r1 r2 by omega)
  have h2 := lane_head (show min c1 c2 ≤ max c1 c2 by omega)
  cases e1 : lane (min r1 r2) (max r1 r2) with
  | nil => rw [e1] at h1; cases h1
  | cons x xs =>
    cases e2 : lane (min c1 c2) (max c1 c2) with
    | nil => rw [e2] at h2; cases h2
    | cons y ys =>
      rw [e1] at h1
      rw [e2] at h2
      cases h1
      cases h2
      rfl
theorem area_last (r1 c1 r2 c2 : Int) : (areaP r1 c1 r2 c2).getLast? = some (max r1 r2, max c1 c2) := by
  rw [area_eq]
  have h1 := lane_last (show min r1 r2 ≤ max r1 r2 by omega)
  have h2 := lane_last (show min c1 c2 ≤ max c1 c2 by omega)
  rcases List.eq_nil_or_concat (lane (min r1 r2) (max r1 r2)) with e1 | ⟨xs, x, e1⟩
  · rw [e1] at h1; cases h1
  · rw [e1, List.concat_eq_append] at h1 ⊢
    rw [List.getLast?_append] at h1
    have ex : x = max r1 r2 := by simpa using h1
    rw [List.flatMap_append, List.flatMap_singleton, List.getLast?_append, List.getLast?_map, h2, ex]
    rfl
theorem area_one (p : Rf) : areaP p.r p.c p.r p.c = [(p.r, p.c)] := by
  rw [area_eq]
  have h1 : (p.r + 1 - p.r).toNat = 1 := by omega
  have h2 : (p.c + 1 - p.c).toNat = 1 := by omega
  simp [lane, h1, h2]
section
variable {K : PySem.W.Frag} {es : Es} {st st1 st2 : List Ob} {ta tb : TE}
theorem ev_eqSb {i j : Str} {b : Bool} (ha : Ev K ta es st st1 (.dat (.str i))) (hb : Ev K tb es st1 st2 (.dat (.str j))) (h : decide (i = j) = b) : Ev K (tOp rEq ta tb) es st st2 (.dat (.bool b)) := h ▸ ev_eqS ha hb
theorem ev_neSb {i j : Str} {b : Bool} (ha : Ev K ta es st st1 (.dat (.str i))) (hb : Ev K tb es st1 st2 (.dat (.str j))) (h : (!decide (i = j)) = b) : Ev K (tOp rNe ta tb) es st st2 (.dat (.bool b)) := h ▸ ev_neS ha hb
theorem ev_eqIb {i j : Int} {b : Bool} (ha : Ev K ta es st st1 (.dat (.int i))) (hb : Ev K tb es st1 st2 (.dat (.int j))) (h : decide (i = j) = b) : Ev K (tOp rEq ta tb) es st st2 (.dat (.bool b)) := h ▸ ev_eqI ha hb
end
/-! dicts by lookup -/
theorem lookup_putM (m : List (Pv.P2 × Pv.It)) (p q : Pv.P2) (x : Pv.It) : (putM m p x).lookup q = if q = p then some x else m.lookup q := by
  unfold putM
  split
  · rename_i h
    by_cases e : q = p
    · subst e
      rw [if_pos rfl]
      induction m with
      | nil => cases h
      | cons a m ih =>
        rw [List.map_cons, List.lookup_cons]
        by_cases z : a.1 = q
        · rw [if_pos z]
          show (match q == a.1 with | true => some x | false => _) = some x
          rw [z, beq_self_eq_true]
        · rw [if_neg z, beq_eq_false_iff_ne.mpr (Ne.symm z)]
          refine ih ?_
          rw [List.any_cons, beq_eq_false_iff_ne.mpr z, Bool.false_or] at h
          exact h
    · rw [if_neg e]
      clear h
      induction m with
      | nil => rfl
      | cons a m ih =>
        rw [List.map_cons, List.lookup_cons, List.lookup_cons]
        by_cases z : a.1 = p
        · rw [if_pos z]
          show (match q == a.1 with | true => some x | false => _) = _
          rw [beq_eq_false_iff_ne.mpr (by rw [z]; exact e), ih]
        · rw [if_neg z, ih]
  · rename_i h
    have no : m.lookup p = none := by
      clear q
      induction m with
      | nil => rfl
      | cons a m ih =>
        rw [List.any_cons, Bool.or_eq_true, not_or] at h
        have z : ¬ a.1 = p := fun z => h.1 (by rw [z]; exact beq_self_eq_true _)
        rw [List.lookup_cons, beq_eq_false_iff_ne.mpr (Ne.symm z)]
        exact ih h.2
    rw [List.lookup_append]
    by_cases e : q = p
    · subst e
      rw [no, if_pos rfl]
      show List.lookup q [(q, x)] = some x
      rw [List.lookup_cons, beq_self_eq_true]
    · rw [if_neg e]
      show (m.lookup q).or (List.lookup q [(p, x)]) = _
      rw [List.lookup_cons, beq_eq_false_iff_ne.mpr e]
      cases m.lookup q <;> rfl
theorem putM_new {m : List (Pv.P2 × Pv.It)} {p : Pv.P2} {x : Pv.It} (h : p ∉ m.map (·.1)) : putM m p x = m ++ [(p, x)] := by
  unfold putM
  rw [if_neg]
  intro z
  obtain ⟨b, hb, e⟩ := List.any_eq_true.mp z
  exact h (List.mem_map.mpr ⟨b, hb, eq_of_beq e⟩)
theorem putM_keys {m : List (Pv.P2 × Pv.It)} {p : Pv.P2} {x : Pv.It} : (putM m p x).map (·.1) = if p ∈ m.map (·.1) then m.map (·.1) else m.map (·.1) ++ [p] := by
  by_cases h : p ∈ m.map (·.1)
  · rw [if_pos h]
    unfold putM
    rw [if_pos]
    · rw [List.map_map]
      refine List.map_congr_left fun b _ => ?_
      show (if b.1 = p then (b.1, x) else b).1 = b.1
      split <;> rfl
    · obtain ⟨b, hb, e⟩ := List.mem_map.mp h
      exact List.any_eq_true.mpr ⟨b, hb, by rw [e]; exact beq_self_eq_true _⟩
  · rw [if_neg h, putM_new h, List.map_append]
    rfl
theorem putAll_from {α : Type} {f : α → Pv.P2} {g : α → Pv.It} : ∀ (as : List α) (m : List (Pv.P2 × Pv.It)), (m.map (·.1) ++ as.map f).Nodup → as.foldl (fun m a => putM m (f a) (g a)) m = m ++ as.map fun a => (f a, g a)
  | [], m, _ => by simp
  | a :: as, m, h => by
    rw [List.foldl_cons]
    have h1 : f a ∉ m.map (·.1) := fun z => by
      rw [List.map_cons] at h
      exact (List.nodup_append.mp h).2.2 _ z _ List.mem_cons_self rfl
    rw [putM_new h1, putAll_from as _ (by
      rw [List.map_append, List.append_assoc]
      simpa using h), List.append_assoc]
    rfl
theorem putAll_nodup {α : Type} {f : α → Pv.P2} {g : α → Pv.It} {as : List α} (h : (as.map f).Nodup) : putAll f g as = as.map fun a => (f a, g a) := by
  unfold putAll
  rw [putAll_from as [] (by simpa using h)]
  rfl
theorem lookup_map {α : Type} {f : α → Pv.P2} {g : α → Pv.It} : ∀ {as : List α} {a : α}, (as.map f).Nodup → a ∈ as → (as.map fun a => (f a, g a)).lookup (f a) = some (g a)
  | b :: as, a, nd, h => by
    rw [List.map_cons] at nd ⊢
    rw [List.lookup_cons]
    rcases List.mem_cons.mp h with rfl | h
    · rw [beq_self_eq_true]
    · have ne : f a ≠ f b := fun z => (List.nodup_cons.mp nd).1 (List.mem_map.mpr ⟨a, h, z⟩)
      rw [beq_eq_false_iff_ne.mpr ne]
      exact lookup_map (List.nodup_cons.mp nd).2 h
theorem ei_lane {K : PySem.W.Frag} {es : Es} {st st1 : List Ob} {tr : TA} {a b : Int} (h : EvA K tr es st st1 [.dat (.int a), .dat (.int (b + 1))]) (ha : -(2 ^ 62) ≤ a ∧ a < 2 ^ 62) (hb : -(2 ^ 62) ≤ b + 1 ∧ b + 1 < 2 ^ 62) : EvI K (iRng2 tr) es st st1 all ((lane a b).map fun r => Pv.It.dat (.int r)) := by
  have q := ei_rng2 h ha hb
  rw [rngD_lane, List.map_map] at q
  exact q
theorem pl_at0 (p q : Rf) : atI (plD (areaR p q)) 0 = some (Pl.pD (min p.r q.r, min p.c q.c)) := by
  refine atI_nat (j := 0) ?_
  unfold plD
  rw [List.getElem?_map, area_head]
  rfl
theorem at_last {α : Type} {l : List α} {x : α} (h : l.getLast? = some x) : atI l (-1) = some x := by
  rw [List.getLast?_eq_getElem?] at h
  have hl := (List.getElem?_eq_some_iff.mp h).1
  have e : ixN l.length (-1) = some (l.length - 1) := by
    unfold ixN
    rw [if_neg (by decide), if_pos (by omega)]
    congr 1
    omega
  unfold atI
  rw [e]
  exact h
theorem pl_last (p q : Rf) : atI (plD (areaR p q)) (-1) = some (Pl.pD (max p.r q.r, max p.c q.c)) := by
  refine at_last ?_
  unfold plD
  rw [List.getLast?_map, area_last]
  rfl
theorem ei_pls {K : PySem.W.Frag} {es : Es} {st st1 : List Ob} {te : TE} {ps : List Pv.P2} (h : Ev K te es st st1 (.dat (.list (plD ps)))) : EvI K (iList K te) es st st1 all (ps.map fun p => Pv.It.dat (Pl.pD p)) := by
  have q := ei_list h
  unfold plD at q
  rw [List.map_map] at q
  exact q
theorem cutI_from {xs : List Pv.It} {n : Nat} (h : n ≤ xs.length) : cutI xs (some (n : Int)) none = xs.drop n := by
  have e1 : HT.sIx xs.length 0 (some (n : Int)) = n := by
    rw [HT.sIx_nat]
    omega
  have e2 : HT.sIx xs.length xs.length none = xs.length := by simp [HT.sIx]
  unfold cutI
  rw [e1, e2]
  exact List.take_of_length_le (by rw [List.length_drop]; exact Nat.le_refl _)
theorem endPe {st : List Ob} {d d' : PyData} (h : d' = d) : EndP st (.dat d') (.dat d) st := h ▸ endP
theorem at_lit {α β : Type} {f : α → β} {l : List α} {i : Int} {d : α} (h : 0 ≤ i ∧ i < l.length) : atI (l.map f) i = some (f (l.getD i.toNat d)) := by
  have e : i = (i.toNat : Nat) := by omega
  have hl : i.toNat < l.length := by omega
  rw [e]
  refine atI_nat ?_
  rw [List.getElem?_map, Int.toNat_natCast, List.getElem?_eq_getElem hl, List.getD_eq_getElem?_getD, List.getElem?_eq_getElem hl]
  rfl
theorem len_sc (ns : List Int) : Rv.dat (.int ((((ns.map PyData.int).map Pv.It.dat).length : Nat) : Int)) = Rv.dat (.int (ns.length : Int)) := by rw [List.length_map, List.length_map]
/-- add, sub, mul by a number -/
def op3 (k : Int) (a b : Rl) : Rl := if k = 0 then .add a b else if k = 1 then .sub a b else .mul a b
def op2m (k : Int) (a b : Rl) : Rl := if k = 0 then .add a b else .mul a b
section
variable {K : PySem.W.Frag} {es : Es} {st : List Ob} {ti ta tb : TE}
theorem ev_op3 {k : Int} {a b : Rl} (hi : Ev K ti es st st (.dat (.int k))) (hk : 0 ≤ k ∧ k < 3) (ha : Ev K ta es st st (.dat a.d)) (hb : Ev K tb es st st (.dat b.d)) :
    Ev K (tTup (tCons (tOp (rIxL K) (tLst (tCons (tC (.str "add")) (tCons (tC (.str "sub")) (tCons (tC (.str "mul")) tNil)))) ti) (tCons ta (tCons tb tNil)))) es st st (.dat (op3 k a b).d) := by
  have L : Ev K (tLst (tCons (tC (.str "add")) (tCons (tC (.str "sub")) (tCons (tC (.str "mul")) tNil)))) es st st (.dat (.list [.str "add", .str "sub", .str "mul"])) := ev_share (ev_lst (xs := [.dat (.str "add"), .dat (.str "sub"), .dat (.str "mul")]) (ea_cons ev_str (ea_cons ev_str (ea_cons ev_str ea_nil))) (Nat.le_of_ble_eq_true rfl))
  have c : k = 0 ∨ k = 1 ∨ k = 2 := by omega
  rcases c with rfl | rfl | rfl
  · exact ev_tup (ds := [.str "add", a.d, b.d]) (ed_cons (ev_ixL L hi Pu.at0) (ed_cons ha (ed_cons hb ed_nil))) (Nat.le_of_ble_eq_true rfl)
  · exact ev_tup (ds := [.str "sub", a.d, b.d]) (ed_cons (ev_ixL L hi Pu.at1) (ed_cons ha (ed_cons hb ed_nil))) (Nat.le_of_ble_eq_true rfl)
  · exact ev_tup (ds := [.str "mul", a.d, b.d]) (ed_cons (ev_ixL L hi Pu.at2) (ed_cons ha (ed_cons hb ed_nil))) (Nat.le_of_ble_eq_true rfl)
theorem ev_op2m {k : Int} {a b : Rl} (hi : Ev K ti es st st (.dat (.int k))) (hk : 0 ≤ k ∧ k < 2) (ha : Ev K ta es st st (.dat a.d)) (hb : Ev K tb es st st (.dat b.d)) :
    Ev K (tTup (tCons (tOp (rIxL K) (tLst (tCons (tC (.str "add")) (tCons (tC (.str "mul")) tNil))) ti) (tCons ta (tCons tb tNil)))) es st st (.dat (op2m k a b).d) := by
  have L : Ev K (tLst (tCons (tC (.str "add")) (tCons (tC (.str "mul")) tNil))) es st st (.dat (.list [.str "add", .str "mul"])) := ev_share (ev_lst (xs := [.dat (.str "add"), .dat (.str "mul")]) (ea_cons ev_str (ea_cons ev_str ea_nil)) (Nat.le_of_ble_eq_true rfl))
  have c : k = 0 ∨ k = 1 := by omega
  rcases c with rfl | rfl
  · exact ev_tup (ds := [.str "add", a.d, b.d]) (ed_cons (ev_ixL L hi Pu.at0) (ed_cons ha (ed_cons hb ed_nil))) (Nat.le_of_ble_eq_true rfl)
  · exact ev_tup (ds := [.str "mul", a.d, b.d]) (ed_cons (ev_ixL L hi Pu.at1) (ed_cons ha (ed_cons hb ed_nil))) (Nat.le_of_ble_eq_true rfl)
end
/-- a dict tells values -/
def Knows (m : List (Pv.P2 × Pv.It)) (kn : Pv.P2 → Int) (ps : List Pv.P2) : Prop := ∀ p ∈ ps, m.lookup p = some (.dat (.int (kn p)))
/-- a rule's own places, and those of what stands within it -/
def allP (r : Rl) : List Pv.P2 := r.outer.flatMap named
end Pq

/-! rules whose places are moved; what is needed; dicts built entry by entry -/
namespace Pq
open PySem PySem.Spec L2 Pr Pl Pv
abbrev QQ := Pv.P2
theorem fn_vac {P : Program} {w : World} {K : PySem.W.Frag} {mg : Str → Option Value} {base : Heap} {f : Addr} {fd : FuncData} {ps : List Str} {sp : Sp} {CX : CXT} (h : ∀ vs H Q E, sp vs H Q E → False) : FnOk P w K mg base CX 0 f fd ps sp :=
  ⟨fun vs H Q E z => (h vs H Q E z).elim, fun A outer s H args us vs Q E _ _ _ _ z => (h vs H Q E z).elim⟩
theorem cut_b2 {s : List PyData} {a b : PyData} : Pu.cutD (s ++ [a, b]) none (some (-2)) = s := Pu.cut_back (k := -2) rfl (by decide)
theorem cut_b3 {s : List PyData} {a b c : PyData} : Pu.cutD (s ++ [a, b, c]) none (some (-3)) = s := Pu.cut_back (k := -3) rfl (by decide)
/-! ### all references moved alike -/
def mvA (d e : Int) (x : Rf) : Rf := ⟨x.r + d, x.c + e, x.rs, x.cs⟩
def shA (d e : Int) : Rl → Rl
  | .num n => .num n
  | .cell p => .cell (mvA d e p)
  | .add a b => .add (shA d e a) (shA d e b)
  | .sub a b => .sub (shA d e a) (shA d e b)
  | .mul a b => .mul (shA d e a) (shA d e b)
  | .pick a b c => .pick (shA d e a) (shA d e b) (shA d e c)
  | .sum p q => .sum (mvA d e p) (mvA d e q)
  | .most p q => .most (mvA d e p) (mvA d e q)
  | .look a p q b => .look (shA d e a) (mvA d e p) (mvA d e q) (shA d e b)
def shAP (d e : Int) : Pt → Pt
  | .rf x => .rf (mvA d e x)
  | .rl r => .rl (shA d e r)
  | p => p
theorem shA_parts (d e : Int) (r : Rl) : (shA d e r).parts = r.parts.map (shAP d e) := by cases r <;> rfl
theorem shA_outer (d e : Int) (r : Rl) : (shA d e r).outer = r.outer.map (shA d e) := by
  induction r with
  | num n => rfl
  | cell p => rfl
  | sum p q => rfl
  | most p q => rfl
  | add a b h1 h2 => simp only [shA, Rl.outer, List.map_cons, List.map_append, h1, h2]
  | sub a b h1 h2 => simp only [shA, Rl.outer, List.map_cons, List.map_append, h1, h2]
  | mul a b h1 h2 => simp only [shA, Rl.outer, List.map_cons, List.map_append, h1, h2]
  | pick a b c h1 h2 h3 => simp only [shA, Rl.outer, List.map_cons, List.map_append, h1, h2, h3]
  | look a p q b h1 h2 => simp only [shA, Rl.outer, List.map_cons, List.map_append, h1, h2]
theorem shA_size (d e : Int) (r : Rl) : (shA d e r).size = r.size := by
  rw [← Rl.outer_len, shA_outer, List.length_map, Rl.outer_len]
def mvP (d e : Int) (p : QQ) : QQ := (p.1 + d, p.2 + e)
theorem lane_mv (a b d : Int) : lane (a + d) (b + d) = (lane a b).map (· + d) := by
  unfold lane
  rw [List.map_map, show b + d + 1 - (a + d) = b + 1 - a by omega]
  refine List.map_congr_left fun i _ => ?_
  show a + d + (i : Nat) = a + (i : Nat) + d
  omega
theorem area_mv (d e r1 c1 r2 c2 : Int) : areaP (r1 + d) (c1 + e) (r2 + d) (c2 + e) = (areaP r1 c1 r2 c2).map (mvP d e) := by
  rw [area_eq, area_eq, show min (r1 + d) (r2 + d) = min r1 r2 + d by omega, show max (r1 + d) (r2 + d) = max r1 r2 + d by omega, show min (c1 + e) (c2 + e) = min c1 c2 + e by omega, show max (c1 + e) (c2 + e) = max c1 c2 + e by omega, lane_mv, lane_mv, List.flatMap_map, List.map_flatMap]
  congr 1
  funext r
  rw [List.map_map, List.map_map]
  rfl
theorem named_mv (d e : Int) (r : Rl) : named (shA d e r) = (named r).map (mvP d e) := by
  cases r with
  | cell p => exact area_mv d e _ _ _ _
  | sum p q => exact area_mv d e _ _ _ _
  | most p q => exact area_mv d e _ _ _ _
  | look a p q b => exact area_mv d e _ _ _ _
  | _ => rfl
theorem lookF_mv (kn : QQ → Int) (d e c1 c2 s : Int) : ∀ (l : List Int) (o : Int), lookF (fun p => kn (mvP (-d) (-e) p)) (c1 + e) (c2 + e) s (l.map (· + d)) o = lookF kn c1 c2 s l o
  | [], o => rfl
  | r :: l, o => by
    rw [List.map_cons]
    unfold lookF
    rw [lookF_mv kn d e c1 c2 s l o]
    have e1 : mvP (-d) (-e) (r + d, c1 + e) = (r, c1) := Prod.ext (by show r + d + -d = r; omega) (by show c1 + e + -e = c1; omega)
    have e2 : mvP (-d) (-e) (r + d, c2 + e) = (r, c2) := Prod.ext (by show r + d + -d = r; omega) (by show c2 + e + -e = c2; omega)
    rw [e1, e2]
/-- what is told doesn't hang on where all stands -/
theorem tell_mv (kn : QQ → Int) (d e : Int) (r : Rl) : tell (fun p => kn (mvP (-d) (-e) p)) (shA d e r) = tell kn r := by
  have km : kM (fun p => kn (mvP (-d) (-e) p)) = fun p => kM kn (mvP (-d) (-e) p) := rfl
  have back : ∀ l : List QQ, (l.map (mvP d e)).map (fun p => kM kn (mvP (-d) (-e) p)) = l.map (kM kn) := fun l => by
    rw [List.map_map]
    refine List.map_congr_left fun p _ => ?_
    show kM kn (mvP (-d) (-e) (mvP d e p)) = kM kn p
    congr 1
    exact Prod.ext (by show p.1 + d + -d = p.1; omega) (by show p.2 + e + -e = p.2; omega)
  induction r with
  | num n => rfl
  | cell p =>
    show kM kn (mvP (-d) (-e) (p.r + d, p.c + e)) % MM = kM kn (p.r, p.c) % MM
    rw [show mvP (-d) (-e) (p.r + d, p.c + e) = (p.r, p.c) from Prod.ext (by show p.r + d + -d = p.r; omega) (by show p.c + e + -e = p.c; omega)]
  | add a b h1 h2 => simp only [shA, tell, h1, h2]
  | sub a b h1 h2 => simp only [shA, tell, h1, h2]
  | mul a b h1 h2 => simp only [shA, tell, h1, h2]
  | pick a b c h1 h2 h3 => simp only [shA, tell, h1, h2, h3]
  | sum p q =>
    show (List.map _ (areaP (p.r + d) (p.c + e) (q.r + d) (q.c + e))).sum % MM = _
    rw [area_mv, km, back]
    rfl
  | most p q =>
    show mxI (List.map _ (areaP (p.r + d) (p.c + e) (q.r + d) (q.c + e))) % MM = _
    rw [area_mv, km, back]
    rfl
  | look a p q b h1 h2 =>
    show looks _ (mvA d e p) (mvA d e q) (tell _ (shA d e a)) (tell _ (shA d e b)) % MM = looks (kM kn) p q (tell kn a) (tell kn b) % MM
    rw [h1, h2, km]
    unfold looks
    show lookF _ (min (p.c + e) (q.c + e)) (max (p.c + e) (q.c + e)) _ (lane (min (p.r + d) (q.r + d)) (max (p.r + d) (q.r + d))) _ % MM = _
    rw [show min (p.r + d) (q.r + d) = min p.r q.r + d by omega, show max (p.r + d) (q.r + d) = max p.r q.r + d by omega, show min (p.c + e) (q.c + e) = min p.c q.c + e by omega, show max (p.c + e) (q.c + e) = max p.c q.c + e by omega, lane_mv, lookF_mv (kM kn)]
/-! ### dicts built entry by entry -/
theorem lookup_fold {α : Type} {f : α → QQ} {g : α → Pv.It} : ∀ (as : List α) (m : List (QQ × Pv.It)) (p : QQ) (x : Pv.It), (∀ a ∈ as, f a = p → g a = x) → ((∃ a ∈ as, f a = p) ∨ m.lookup p = some x) → (as.foldl (fun m a => putM m (f a) (g a)) m).lookup p = some x
  | [], m, p, x, _, h => by
    rcases h with ⟨_, h, _⟩ | h
    · cases h
    · exact h
  | a :: as, m, p, x, hg, h => by
    rw [List.foldl_cons]
    refine lookup_fold as _ p x (fun b hb => hg b (List.mem_cons_of_mem _ hb)) ?_
    rw [lookup_putM]
    by_cases e : p = f a
    · rw [if_pos e, hg a List.mem_cons_self e.symm]
      exact .inr rfl
    · rw [if_neg e]
      rcases h with ⟨b, hb, eb⟩ | h
      · rcases List.mem_cons.mp hb with rfl | hb
        · exact absurd eb.symm e
        · exact .inl ⟨b, hb, eb⟩
      · exact .inr h
theorem lookup_putAll {α : Type} {f : α → QQ} {g : α → Pv.It} {as : List α} {a : α} (ha : a ∈ as) (hg : ∀ b ∈ as, f b = f a → g b = g a) : (putAll f g as).lookup (f a) = some (g a) :=
  lookup_fold as [] (f a) (g a) hg (.inl ⟨a, ha, rfl⟩)
theorem putM_nodup {m : List (QQ × Pv.It)} {p : QQ} {x : Pv.It} (h : (m.map (·.1)).Nodup) : ((putM m p x).map (·.1)).Nodup := by
  rw [putM_keys]
  split
  · exact h
  · rename_i n
    exact List.nodup_append.mpr ⟨h, by simp, fun a ha b hb z => n (by rw [← List.mem_singleton.mp hb, ← z]; exact ha)⟩
theorem fold_nodup {α : Type} {f : α → QQ} {g : α → Pv.It} : ∀ (as : List α) (m : List (QQ × Pv.It)), (m.map (·.1)).Nodup → ((as.foldl (fun m a => putM m (f a) (g a)) m).map (·.1)).Nodup
  | [], _, h => h
  | a :: as, m, h => by
    rw [List.foldl_cons]
    exact fold_nodup as _ (putM_nodup h)
theorem putAll_nd {α : Type} {f : α → QQ} {g : α → Pv.It} {as : List α} : ((putAll f g as).map (·.1)).Nodup := fold_nodup as [] List.nodup_nil
theorem putM_all {m : List (QQ × Pv.It)} {p : QQ} {x : Pv.It} {Q : Pv.It → Prop} (h : ∀ b ∈ m, Q b.2) (hx : Q x) : ∀ b ∈ putM m p x, Q b.2 := by
  unfold putM
  split
  · intro b hb
    obtain ⟨c, hc, rfl⟩ := List.mem_map.mp hb
    split
    · exact hx
    · exact h c hc
  · intro b hb
    rcases List.mem_append.mp hb with hb | hb
    · exact h b hb
    · rw [List.mem_singleton.mp hb]
      exact hx
theorem fold_all {α : Type} {f : α → QQ} {g : α → Pv.It} {Q : Pv.It → Prop} : ∀ (as : List α) (m : List (QQ × Pv.It)), (∀ b ∈ m, Q b.2) → (∀ a ∈ as, Q (g a)) → ∀ b ∈ as.foldl (fun m a => putM m (f a) (g a)) m, Q b.2
  | [], _, h, _ => h
  | a :: as, m, h, hg => by
    rw [List.foldl_cons]
    exact fold_all as _ (putM_all h (hg a List.mem_cons_self)) fun b hb => hg b (List.mem_cons_of_mem _ hb)
theorem putAll_all {α : Type} {f : α → QQ} {g : α → Pv.It} {Q : Pv.It → Prop} {as : List α} (hg : ∀ a ∈ as, Q (g a)) : ∀ b ∈ putAll f g as, Q b.2 := fold_all as [] (fun _ h => nomatch h) hg
theorem putAll_take {α : Type} {f : α → QQ} {g : α → Pv.It} {as : List α} {i : Nat} {a : α} (h : as[i]? = some a) : putAll f g (as.take (i + 1)) = putM (putAll f g (as.take i)) (f a) (g a) := by
  unfold putAll
  rw [List.take_add_one, h]
  show List.foldl _ _ (_ ++ [a]) = _
  rw [List.foldl_append]
  rfl
theorem putAll_le {α : Type} {f : α → QQ} {g : α → Pv.It} {as : List α} : (putAll f g as).length ≤ as.length := by
  have := putAll_len (f := f) (g := g) as []
  rw [List.length_nil, Nat.zero_add] at this
  exact this
/-! ### what a rule needs, with what stands within it -/
def rng (n : Nat) : List Int := (List.range n).map fun i : Nat => (i : Int)
theorem rngD_rng (n : Nat) : Pu.rngD 0 n = (rng n).map PyData.int := by
  unfold Pu.rngD rng
  rw [List.map_map]
  refine List.map_congr_left fun i _ => ?_
  show PyData.int (0 + (i : Nat)) = PyData.int (i : Nat)
  rw [Int.zero_add]
theorem ei_rng {K : PySem.W.Frag} {es : Es} {st st1 : List Ob} {tr : TA} {n : Int} (h : EvA K tr es st st1 [.dat (.int n)]) (hn : -(2 ^ 62) ≤ n ∧ n < 2 ^ 62) : EvI K (iRng1 tr) es st st1 all ((rng n.toNat).map fun i => Pv.It.dat (.int i)) := by
  have q := ei_rng1 h hn
  rw [rngD_rng, List.map_map] at q
  exact q
theorem rng_get {n i : Nat} (h : i < n) : (rng n)[i]? = some (i : Int) := by
  unfold rng
  rw [List.getElem?_map, List.getElem?_range h]
  rfl
theorem rng_len (n : Nat) : (rng n).length = n := by
  unfold rng
  rw [List.length_map, List.length_range]
/-- a loop over range(n): the turn's number -/
theorem w_forR {K : PySem.W.Frag} {W : WE} {es : Es} {st st1 : List Ob} {P : Pv.Post} {tr : TA} {j : Nat} {t : TS} {n : Nat} (h : EvA K tr es st st1 [.dat (.int n)]) (hn : n < 2 ^ 62) (Iv : Nat → Es → List Ob → Prop) (h0 : Iv 0 es st1)
    (hs : ∀ i e s, i < n → Iv i e s → Ws K W t (e.set j (.dat (.int (i : Nat)))) s ⟨Iv (i + 1), P.rt, P.nx, Iv (i + 1), P.ex⟩) (hd : ∀ e s, Iv n e s → P.nx e s) : Ws K W (tFor (iRng1 tr) (gName j) t) es st P := by
  have q := ei_rng h ⟨by omega, by omega⟩
  rw [Int.toNat_natCast] at q
  refine w_forN q Iv h0 (fun _ _ _ _ => True.intro) (fun i x e s hx hv => ?_) (fun e s hv => ?_)
  · rw [List.getElem?_map] at hx
    obtain ⟨k, hk, rfl⟩ := Option.map_eq_some_iff.mp hx
    have hi := (List.getElem?_eq_some_iff.mp hk).1
    rw [rng_len] at hi
    rw [rng_get hi] at hk
    cases hk
    exact hs i e s hi hv
  · rw [List.length_map, rng_len] at hv
    exact hd e s hv
end Pq

/-! what is needed, as a list; values within their bounds; heads of rules -/
namespace Pq
open PySem PySem.Spec L2 Pr Pl Pv
def form : Rl → Str
  | .num _ => "num"
  | .cell _ => "cell"
  | .add _ _ => "add"
  | .sub _ _ => "sub"
  | .mul _ _ => "mul"
  | .pick _ _ _ => "pick"
  | .sum _ _ => "sum"
  | .most _ _ => "most"
  | .look _ _ _ _ => "look"
def tailP : Rl → List Pt
  | .num n => [.i n]
  | .cell p => [.rf p]
  | .add a b => [.rl a, .rl b]
  | .sub a b => [.rl a, .rl b]
  | .mul a b => [.rl a, .rl b]
  | .pick a b c => [.rl a, .rl b, .rl c]
  | .sum p q => [.rf p, .rf q]
  | .most p q => [.rf p, .rf q]
  | .look a p q b => [.rl a, .rf p, .rf q, .rl b]
theorem form_num {r : Rl} (h : form r = "num") : ∃ n, r = .num n := by
  cases r with
  | num n => exact ⟨n, rfl⟩
  | cell p => exact absurd (show ("cell" : Str) = "num" from h) (by decide)
  | add a b => exact absurd (show ("add" : Str) = "num" from h) (by decide)
  | sub a b => exact absurd (show ("sub" : Str) = "num" from h) (by decide)
  | mul a b => exact absurd (show ("mul" : Str) = "num" from h) (by decide)
  | pick a b c => exact absurd (show ("pick" : Str) = "num" from h) (by decide)
  | sum p q => exact absurd (show ("sum" : Str) = "num" from h) (by decide)
  | most p q => exact absurd (show ("most" : Str) = "num" from h) (by decide)
  | look a p q b => exact absurd (show ("look" : Str) = "num" from h) (by decide)
theorem form_cell {r : Rl} (h : form r = "cell") : ∃ p, r = .cell p := by
  cases r with
  | num n => exact absurd (show ("num" : Str) = "cell" from h) (by decide)
  | cell p => exact ⟨p, rfl⟩
  | add a b => exact absurd (show ("add" : Str) = "cell" from h) (by decide)
  | sub a b => exact absurd (show ("sub" : Str) = "cell" from h) (by decide)
  | mul a b => exact absurd (show ("mul" : Str) = "cell" from h) (by decide)
  | pick a b c => exact absurd (show ("pick" : Str) = "cell" from h) (by decide)
  | sum p q => exact absurd (show ("sum" : Str) = "cell" from h) (by decide)
  | most p q => exact absurd (show ("most" : Str) = "cell" from h) (by decide)
  | look a p q b => exact absurd (show ("look" : Str) = "cell" from h) (by decide)
theorem form_add {r : Rl} (h : form r = "add") : ∃ a b, r = .add a b := by
  cases r with
  | num n => exact absurd (show ("num" : Str) = "add" from h) (by decide)
  | cell p => exact absurd (show ("cell" : Str) = "add" from h) (by decide)
  | add a b => exact ⟨a, b, rfl⟩
  | sub a b => exact absurd (show ("sub" : Str) = "add" from h) (by decide)
  | mul a b => exact absurd (show ("mul" : Str) = "add" from h) (by decide)
  | pick a b c => exact absurd (show ("pick" : Str) = "add" from h) (by decide)
  | sum p q => exact absurd (show ("sum" : Str) = "add" from h) (by decide)
  | most p q => exact absurd (show ("most" : Str) = "add" from h) (by decide)
  | look a p q b => exact absurd (show ("look" : Str) = "add" from h) (by decide)
theorem form_sub {r : Rl} (h : form r = "sub") : ∃ a b, r = .sub a b := by
  cases r with
  | num n => exact absurd (show ("num" : Str) = "sub" from h) (by decide)
  | cell p => exact absurd (show ("cell" : Str) = "sub" from h) (by decide)
  | add a b => exact absurd (show ("add" : Str) = "sub" from h) (by decide)
  | sub a b => exact ⟨a, b, rfl⟩
  | mul a b => exact absurd (show ("mul" : Str) = "sub" from h) (by decide)
  | pick a b c => exact absurd (show ("pick" : Str) = "sub" from h) (by decide)
  | sum p q => exact absurd (show ("sum" : Str) = "sub" from h) (by decide)
  | most p q => exact absurd (show ("most" : Str) = "sub" from h) (by decide)
  | look a p q b => exact absurd (show ("look" : Str) = "sub" from h) (by decide)
theorem form_mul {r : Rl} (h : form r = "mul") : ∃ a b, r = .mul a b := by
  cases r with
  | num n => exact absurd (show ("num" : Str) = "mul" from h) (by decide)
  | cell p => exact absurd (show ("cell" : Str) = "mul" from h) (by decide)
  | add a b => exact absurd (show ("add" : Str) = "mul" from h) (by decide)
  | sub a b => exact absurd (show ("sub" : Str) = "mul" from h) (by decide)
  | mul a b => exact ⟨a, b, rfl⟩
  | pick a b c => exact absurd (show ("pick" : Str) = "mul" from h) (by decide)
  | sum p q => exact absurd (show ("sum" : Str) = "mul" from h) (by decide)
  | most p q => exact absurd (show ("most" : Str) = "mul" from h) (by decide)
  | look a p q b => exact absurd (show ("look" : Str) = "mul" from h) (by decide)
theorem form_pick {r : Rl} (h : form r = "pick") : ∃ a b c, r = .pick a b c := by
  cases r with
  | num n => exact absurd (show ("num" : Str) = "pick" from h) (by decide)
  | cell p => exact absurd (show ("cell" : Str) = "pick" from h) (by decide)
  | add a b => exact absurd (show ("add" : Str) = "pick" from h) (by decide)
  | sub a b => exact absurd (show ("sub" : Str) = "pick" from h) (by decide)
  | mul a b => exact absurd (show ("mul" : Str) = "pick" from h) (by decide)
  | pick a b c => exact ⟨a, b, c, rfl⟩
  | sum p q => exact absurd (show ("sum" : Str) = "pick" from h) (by decide)
  | most p q => exact absurd (show ("most" : Str) = "pick" from h) (by decide)
  | look a p q b => exact absurd (show ("look" : Str) = "pick" from h) (by decide)
theorem form_sum {r : Rl} (h : form r = "sum") : ∃ p q, r = .sum p q := by
  cases r with
  | num n => exact absurd (show ("num" : Str) = "sum" from h) (by decide)
  | cell p => exact absurd (show ("cell" : Str) = "sum" from h) (by decide)
  | add a b => exact absurd (show ("add" : Str) = "sum" from h) (by decide)
  | sub a b => exact absurd (show ("sub" : Str) = "sum" from h) (by decide)
  | mul a b => exact absurd (show ("mul" : Str) = "sum" from h) (by decide)
  | pick a b c => exact absurd (show ("pick" : Str) = "sum" from h) (by decide)
  | sum p q => exact ⟨p, q, rfl⟩
  | most p q => exact absurd (show ("most" : Str) = "sum" from h) (by decide)
  | look a p q b => exact absurd (show ("look" : Str) = "sum" from h) (by decide)
theorem form_most {r : Rl} (h : form r = "most") : ∃ p q, r = .most p q := by
  cases r with
  | num n => exact absurd (show ("num" : Str) = "most" from h) (by decide)
  | cell p => exact absurd (show ("cell" : Str) = "most" from h) (by decide)
  | add a b => exact absurd (show ("add" : Str) = "most" from h) (by decide)
  | sub a b => exact absurd (show ("sub" : Str) = "most" from h) (by decide)
  | mul a b => exact absurd (show ("mul" : Str) = "most" from h) (by decide)
  | pick a b c => exact absurd (show ("pick" : Str) = "most" from h) (by decide)
  | sum p q => exact absurd (show ("sum" : Str) = "most" from h) (by decide)
  | most p q => exact ⟨p, q, rfl⟩
  | look a p q b => exact absurd (show ("look" : Str) = "most" from h) (by decide)
theorem form_look {r : Rl} (h : form r = "look") : ∃ a p q b, r = .look a p q b := by
  cases r with
  | num n => exact absurd (show ("num" : Str) = "look" from h) (by decide)
  | cell p => exact absurd (show ("cell" : Str) = "look" from h) (by decide)
  | add a b => exact absurd (show ("add" : Str) = "look" from h) (by decide)
  | sub a b => exact absurd (show ("sub" : Str) = "look" from h) (by decide)
  | mul a b => exact absurd (show ("mul" : Str) = "look" from h) (by decide)
  | pick a b c => exact absurd (show ("pick" : Str) = "look" from h) (by decide)
  | sum p q => exact absurd (show ("sum" : Str) = "look" from h) (by decide)
  | most p q => exact absurd (show ("most" : Str) = "look" from h) (by decide)
  | look a p q b => exact ⟨a, p, q, b, rfl⟩
theorem d_head (r : Rl) : r.d = .tuple (.str (form r) :: (tailP r).map Pt.d) := by cases r <;> rfl
theorem tail_len (r : Rl) : (tailP r).length ≤ 4 := by cases r <;> exact Nat.le_of_ble_eq_true rfl
theorem tail_dep (r : Rl) : ∀ p ∈ tailP r, p.dep < r.dep := by
  intro p hp
  have := r.parts_dep p
  cases r <;> exact this (List.mem_cons_of_mem _ hp)
def ndL : Rl → List QQ
  | .num _ => []
  | .cell p => [(p.r, p.c)]
  | .add a b => ndL a ++ ndL b
  | .sub a b => ndL a ++ ndL b
  | .mul a b => ndL a ++ ndL b
  | .pick a b c => ndL a ++ (ndL b ++ ndL c)
  | .sum p q => areaR p q
  | .most p q => areaR p q
  | .look a p q b => areaR p q ++ (ndL a ++ ndL b)
def ndP : Pt → List QQ
  | .rl r => ndL r
  | _ => []
theorem ndL_iff (r : Rl) (p : QQ) : p ∈ ndL r ↔ ∃ o ∈ r.outer, p ∈ named o := by
  induction r with
  | num n => simp [ndL, Rl.outer, named]
  | cell x =>
    have : named (.cell x) = [(x.r, x.c)] := area_one x
    simp [ndL, Rl.outer, this]
  | sum x y => simp [ndL, Rl.outer, named]
  | most x y => simp [ndL, Rl.outer, named]
  | add a b h1 h2 =>
    have : named (.add a b) = [] := rfl
    simp only [ndL, Rl.outer, List.mem_append, List.mem_cons, h1, h2]
    constructor
    · rintro (⟨o, ho, hp⟩ | ⟨o, ho, hp⟩)
      · exact ⟨o, .inr (.inr ho), hp⟩
      · exact ⟨o, .inr (.inl ho), hp⟩
    · rintro ⟨o, rfl | ho | ho, hp⟩
      · rw [this] at hp; cases hp
      · exact .inr ⟨o, ho, hp⟩
      · exact .inl ⟨o, ho, hp⟩
  | sub a b h1 h2 =>
    have : named (.sub a b) = [] := rfl
    simp only [ndL, Rl.outer, List.mem_append, List.mem_cons, h1, h2]
    constructor
    · rintro (⟨o, ho, hp⟩ | ⟨o, ho, hp⟩)
      · exact ⟨o, .inr (.inr ho), hp⟩
      · exact ⟨o, .inr (.inl ho), hp⟩
    · rintro ⟨o, rfl | ho | ho, hp⟩
      · rw [this] at hp; cases hp
      · exact .inr ⟨o, ho, hp⟩
      · exact .inl ⟨o, ho, hp⟩
  | mul a b h1 h2 =>
    have : named (.mul a b) = [] := rfl
    simp only [ndL, Rl.outer, List.mem_append, List.mem_cons, h1, h2]
    constructor
    · rintro (⟨o, ho, hp⟩ | ⟨o, ho, hp⟩)
      · exact ⟨o, .inr (.inr ho), hp⟩
      · exact ⟨o, .inr (.inl ho), hp⟩
    · rintro ⟨o, rfl | ho | ho, hp⟩
      · rw [this] at hp; cases hp
      · exact .inr ⟨o, ho, hp⟩
      · exact .inl ⟨o, ho, hp⟩
  | pick a b c h1 h2 h3 =>
    have : named (.pick a b c) = [] := rfl
    simp only [ndL, Rl.outer, List.mem_append, List.mem_cons, h1, h2, h3]
    constructor
    · rintro (⟨o, ho, hp⟩ | ⟨o, ho, hp⟩ | ⟨o, ho, hp⟩)
      · exact ⟨o, .inr (.inr (.inr ho)), hp⟩
      · exact ⟨o, .inr (.inr (.inl ho)), hp⟩
      · exact ⟨o, .inr (.inl ho), hp⟩
    · rintro ⟨o, rfl | ho | ho | ho, hp⟩
      · rw [this] at hp; cases hp
      · exact .inr (.inr ⟨o, ho, hp⟩)
      · exact .inr (.inl ⟨o, ho, hp⟩)
      · exact .inl ⟨o, ho, hp⟩
  | look a x y b h1 h2 =>
    have : named (.look a x y b) = areaR x y := rfl
    simp only [ndL, Rl.outer, List.mem_append, List.mem_cons, h1, h2]
    constructor
    · rintro (hp | ⟨o, ho, hp⟩ | ⟨o, ho, hp⟩)
      · exact ⟨_, .inl rfl, hp⟩
      · exact ⟨o, .inr (.inr ho), hp⟩
      · exact ⟨o, .inr (.inl ho), hp⟩
    · rintro ⟨o, rfl | ho | ho, hp⟩
      · exact .inl hp
      · exact .inr (.inr ⟨o, ho, hp⟩)
      · exact .inr (.inl ⟨o, ho, hp⟩)
/-- a dict tells values that keep their bounds -/
def Fits (m : List (QQ × Pv.It)) (kn : QQ → Int) (r : Rl) : Prop := ∀ p ∈ ndL r, m.lookup p = some (.dat (.int (kn p))) ∧ 0 ≤ kn p ∧ kn p < MM
theorem kM_id {kn : QQ → Int} {p : QQ} (h : 0 ≤ kn p ∧ kn p < MM) : kM kn p = kn p := Int.emod_eq_of_lt h.1 h.2
theorem map_kM {kn : QQ → Int} {l : List QQ} (h : ∀ p ∈ l, 0 ≤ kn p ∧ kn p < MM) : l.map (kM kn) = l.map kn := List.map_congr_left fun p hp => kM_id (h p hp)
theorem mxI_rg {l : List Int} (hn : l ≠ []) (h : ∀ x ∈ l, 0 ≤ x ∧ x < MM) : mxI l % MM = mxI l := Int.emod_eq_of_lt (h _ (mxI_mem hn)).1 (h _ (mxI_mem hn)).2
theorem lookF_congr {kn kn' : QQ → Int} {c1 c2 s : Int} : ∀ {l : List Int} {o : Int}, (∀ r ∈ l, kn (r, c1) = kn' (r, c1) ∧ kn (r, c2) = kn' (r, c2)) → lookF kn c1 c2 s l o = lookF kn' c1 c2 s l o
  | [], _, _ => rfl
  | r :: l, o, h => by
    unfold lookF
    rw [(h r List.mem_cons_self).1, (h r List.mem_cons_self).2, lookF_congr fun x hx => h x (List.mem_cons_of_mem _ hx)]
theorem lookF_rg {kn : QQ → Int} {c1 c2 s : Int} : ∀ {l : List Int} {o : Int}, (∀ r ∈ l, 0 ≤ kn (r, c2) ∧ kn (r, c2) < MM) → (0 ≤ o ∧ o < MM) → 0 ≤ lookF kn c1 c2 s l o ∧ lookF kn c1 c2 s l o < MM
  | [], _, _, h => h
  | r :: l, o, h, ho => by
    unfold lookF
    split
    · exact h r List.mem_cons_self
    · exact lookF_rg (fun x hx => h x (List.mem_cons_of_mem _ hx)) ho
theorem mem_areaR {p q : Rf} {r c : Int} : (r, c) ∈ areaR p q ↔ r ∈ lane (min p.r q.r) (max p.r q.r) ∧ c ∈ lane (min p.c q.c) (max p.c q.c) := by
  rw [mem_lane, mem_lane]
  exact mem_area
theorem lane_mem1 {a b : Int} (h : a ≤ b) : a ∈ lane a b := mem_lane.mpr ⟨Int.le_refl _, h⟩
theorem lane_mem2 {a b : Int} (h : a ≤ b) : b ∈ lane a b := mem_lane.mpr ⟨h, Int.le_refl _⟩
/-- within the bounds the law's reckoning is the program's -/
theorem tell_look {kn : QQ → Int} {a b : Rl} {p q : Rf} (h : ∀ x ∈ areaR p q, 0 ≤ kn x ∧ kn x < MM) : tell kn (.look a p q b) = looks kn p q (tell kn a) (tell kn b) := by
  have e : looks (kM kn) p q (tell kn a) (tell kn b) = looks kn p q (tell kn a) (tell kn b) := lookF_congr fun r hr => ⟨kM_id (h _ (mem_areaR.mpr ⟨hr, lane_mem1 (by omega)⟩)), kM_id (h _ (mem_areaR.mpr ⟨hr, lane_mem2 (by omega)⟩))⟩
  show looks (kM kn) p q (tell kn a) (tell kn b) % MM = _
  rw [e]
  have := lookF_rg (kn := kn) (c1 := min p.c q.c) (c2 := max p.c q.c) (s := tell kn a) (l := lane (min p.r q.r) (max p.r q.r)) (o := tell kn b) (fun r hr => h _ (mem_areaR.mpr ⟨hr, lane_mem2 (by omega)⟩)) (tell_rg kn b)
  exact Int.emod_eq_of_lt this.1 this.2
theorem tell_cell {kn : QQ → Int} {p : Rf} (h : 0 ≤ kn (p.r, p.c) ∧ kn (p.r, p.c) < MM) : tell kn (.cell p) = kn (p.r, p.c) := by
  show kM kn (p.r, p.c) % MM = _
  rw [kM_id h]
  exact Int.emod_eq_of_lt h.1 h.2
theorem tell_sum {kn : QQ → Int} {p q : Rf} (h : ∀ x ∈ areaR p q, 0 ≤ kn x ∧ kn x < MM) : tell kn (.sum p q) = ((areaR p q).map kn).sum % MM := by
  show ((areaR p q).map (kM kn)).sum % MM = _
  rw [map_kM h]
theorem tell_most {kn : QQ → Int} {p q : Rf} (h : ∀ x ∈ areaR p q, 0 ≤ kn x ∧ kn x < MM) : tell kn (.most p q) = mxI ((areaR p q).map kn) := by
  show mxI ((areaR p q).map (kM kn)) % MM = _
  rw [map_kM h]
  refine mxI_rg (fun z => area_ne p q (List.map_eq_nil_iff.mp z)) fun x hx => ?_
  obtain ⟨y, hy, rfl⟩ := List.mem_map.mp hx
  exact h y hy
theorem tell_pick {kn : QQ → Int} {a b c : Rl} : tell kn (.pick a b c) = if tell kn a = 0 then tell kn c else tell kn b := by
  show (if tell kn a = 0 then tell kn c else tell kn b) % MM = _
  split
  · exact Int.emod_eq_of_lt (tell_rg kn c).1 (tell_rg kn c).2
  · exact Int.emod_eq_of_lt (tell_rg kn b).1 (tell_rg kn b).2
section
variable {K : PySem.W.Frag} {es : Es} {st st1 : List Ob} {ta : TE} {d : PyData} {ds : List PyData}
theorem ei_is {wi : TI} {ok : List Ob → Prop} {xs ys : List Pv.It} (h : EvI K wi es st st1 ok xs) (e : xs = ys) : EvI K wi es st st1 ok ys := e ▸ h
theorem filt_true {α : Type} (l : List α) : l.filter (fun _ => true) = l := List.filter_eq_self.mpr fun _ _ => rfl
/-- a comprehension without a test -/
theorem ev_lm {te : TE} {α : Type} {wi : TI} {j : Nat} {vs : List Nat} {ok : List Ob → Prop} {as : List α} {enc : α → Pv.It} (g : α → PyData) (h : EvI K wi es st st1 ok (as.map enc)) (hok : ok st1) (hz : as.length ≤ 50000) (hj : ∀ σ x, wipe ((wipe σ vs).set j x) vs = wipe σ vs)
    (he : ∀ a ∈ as, Ev K te ((wipeE es vs).set j (.it (enc a))) st1 st1 (.dat (g a))) : Ev K (tLc wi (gName j) tYes te vs) es st st1 (dats (as.map g)) := by
  have q := ev_lc (f := fun _ => true) g h hok hz hj (fun _ _ => eb_yes) (fun a ha _ => he a ha)
  rw [filt_true] at q
  exact q
/-- t[1:] -/
theorem ev_tail (ha : Ev K ta es st st1 (.dat (.tuple (d :: ds)))) : Ev K (tSl (rSlT K) ta (tPart (tC (.int 1))) tNoPart) es st st1 (.dat (.tuple ds)) := by
  have e1 : HT.sIx (d :: ds).length 0 (some (1 : Int)) = 1 := by
    rw [show (some (1 : Int)) = some ((1 : Nat) : Int) from rfl, HT.sIx_nat, List.length_cons]
    omega
  have e : Pu.cutD (d :: ds) (some 1) none = ds := by
    unfold Pu.cutD
    rw [e1, HT.sIx_none, List.drop_one]
    exact List.take_of_length_le (by simp)
  refine ev_is (ev_slT ha (eo_some ev_int) eo_none ?_) (by rw [e])
  rw [e1]
  rfl
end
end Pq

/-! rules whose references lie on a sheet -/
namespace Pq
open PySem PySem.Spec L2 Pr Pl Pv
/-- a sheet of at most 12 rows and columns, from nought -/
structure Sz (B : Bx) : Prop where
  h0 : 0 < B.h
  w0 : 0 < B.w
  h1 : B.h ≤ 12
  w1 : B.w ≤ 12
  a0 : B.a = 0
  b0 : B.b = 0
theorem inb_refs {B : Bx} {o : Rl} (h : inb B o) : ∀ x ∈ refs o, B.has x.r x.c := by
  cases o with
  | cell x =>
    intro y hy
    rw [List.mem_singleton.mp (show y ∈ [x] from hy)]
    exact h
  | sum x y =>
    intro z hz
    rcases List.mem_cons.mp (show z ∈ [x, y] from hz) with e | e
    · rw [e]; exact h.1
    · rw [List.mem_singleton.mp e]; exact h.2
  | most x y =>
    intro z hz
    rcases List.mem_cons.mp (show z ∈ [x, y] from hz) with e | e
    · rw [e]; exact h.1
    · rw [List.mem_singleton.mp e]; exact h.2
  | look a x y b =>
    intro z hz
    rcases List.mem_cons.mp (show z ∈ [x, y] from hz) with e | e
    · rw [e]; exact h.2.1
    · rw [List.mem_singleton.mp e]; exact h.2.2.1
  | _ => exact fun z hz => nomatch hz
theorem has_rg {B : Bx} (z : Sz B) {r c : Int} (h : B.has r c) : (0 ≤ r ∧ r < 12) ∧ 0 ≤ c ∧ c < 12 := by
  obtain ⟨_, _, h1, w1, a0, b0⟩ := z
  unfold Bx.has at h
  omega
theorem area_le {B : Bx} {r1 c1 r2 c2 : Int} (h1 : B.has r1 c1) (h2 : B.has r2 c2) : (areaP r1 c1 r2 c2).length ≤ B.h * B.w := by
  rw [areaP_len]
  have e1 : (max r1 r2 + 1 - min r1 r2).toNat ≤ B.h := by unfold Bx.has at *; omega
  have e2 : (max c1 c2 + 1 - min c1 c2).toNat ≤ B.w := by unfold Bx.has at *; omega
  exact Nat.mul_le_mul e1 e2
theorem sz_area {B : Bx} (z : Sz B) : B.h * B.w ≤ 144 := Nat.mul_le_mul z.h1 z.w1
theorem named_le {B : Bx} (z : Sz B) {o : Rl} (h : inb B o) : (named o).length ≤ 144 := by
  have q := sz_area z
  cases o with
  | cell x => exact Nat.le_trans (area_le h h) q
  | sum x y => exact Nat.le_trans (area_le h.1 h.2) q
  | most x y => exact Nat.le_trans (area_le h.1 h.2) q
  | look a x y b => exact Nat.le_trans (area_le h.2.1 h.2.2.1) q
  | _ => exact Nat.zero_le _
theorem ndL_le {B : Bx} (z : Sz B) {r : Rl} (h : inb B r) : (ndL r).length ≤ r.size * 145 := by
  have q := sz_area z
  induction r with
  | num n => simp [ndL]
  | cell x => simp [ndL, Rl.size]
  | sum x y =>
    have := area_le h.1 h.2
    show (areaP x.r x.c y.r y.c).length ≤ 1 * 145
    omega
  | most x y =>
    have := area_le h.1 h.2
    show (areaP x.r x.c y.r y.c).length ≤ 1 * 145
    omega
  | add a b h1 h2 => have := h1 h.1; have := h2 h.2; simp only [ndL, List.length_append, Rl.size]; omega
  | sub a b h1 h2 => have := h1 h.1; have := h2 h.2; simp only [ndL, List.length_append, Rl.size]; omega
  | mul a b h1 h2 => have := h1 h.1; have := h2 h.2; simp only [ndL, List.length_append, Rl.size]; omega
  | pick a b c h1 h2 h3 => have := h1 h.1; have := h2 h.2.1; have := h3 h.2.2; simp only [ndL, List.length_append, Rl.size]; omega
  | look a x y b h1 h2 =>
    have := h1 h.1
    have := h2 h.2.2.2
    have := area_le h.2.1 h.2.2.1
    simp only [ndL, List.length_append, Rl.size]
    show (areaP x.r x.c y.r y.c).length + _ ≤ _
    omega
theorem inb_ndL {B : Bx} {r : Rl} (h : inb B r) {p : QQ} (hp : p ∈ ndL r) : B.has p.1 p.2 := by
  obtain ⟨o, ho, hq⟩ := (ndL_iff r p).mp hp
  exact named_in (inb_outer h o ho) hq
/-! ### a sheet's places by a number -/
/-- the place with the number k -/
def plK (w : Nat) (k : Nat) : QQ := ((k : Int) / (w : Int), (k : Int) % (w : Int))
/-- the number of a place -/
def noK (w : Nat) (p : QQ) : Nat := (p.1 * w + p.2).toNat
theorem noK_plK {w k : Nat} (hw : 0 < w) : noK w (plK w k) = k := by
  have := Int.mul_ediv_add_emod (k : Int) (w : Int)
  unfold noK plK
  rw [Int.mul_comm]
  show ((w : Int) * ((k : Int) / (w : Int)) + (k : Int) % (w : Int)).toNat = k
  rw [this]
  rfl
theorem plK_has {B : Bx} (z : Sz B) {k : Nat} (hk : k < B.h * B.w) : B.has (plK B.w k).1 (plK B.w k).2 := by
  have h1 : k / B.w < B.h := (Nat.div_lt_iff_lt_mul z.w0).mpr hk
  have h2 := Nat.mod_lt k z.w0
  have a0 := z.a0
  have b0 := z.b0
  unfold Bx.has plK
  have e1 : (k : Int) / (B.w : Int) = ((k / B.w : Nat) : Int) := rfl
  have e2 : (k : Int) % (B.w : Int) = ((k % B.w : Nat) : Int) := rfl
  dsimp only
  rw [e1, e2]
  generalize k / B.w = u at h1 ⊢
  generalize k % B.w = v at h2 ⊢
  omega
theorem plK_noK {B : Bx} (z : Sz B) {p : QQ} (h : B.has p.1 p.2) : noK B.w p < B.h * B.w ∧ plK B.w (noK B.w p) = p := by
  obtain ⟨x, y⟩ := p
  have a0 := z.a0
  have b0 := z.b0
  have w0 := z.w0
  unfold Bx.has at h
  dsimp only at h
  rw [a0, b0] at h
  obtain ⟨i, rfl⟩ : ∃ i : Nat, x = i := ⟨x.toNat, by omega⟩
  obtain ⟨j, rfl⟩ : ∃ j : Nat, y = j := ⟨y.toNat, by omega⟩
  have hj : j < B.w := by omega
  have hi : i < B.h := by omega
  have e : noK B.w ((i : Int), (j : Int)) = B.w * i + j := by
    unfold noK
    show ((i : Int) * (B.w : Int) + (j : Int)).toNat = _
    rw [show (i : Int) * (B.w : Int) + (j : Int) = ((B.w * i + j : Nat) : Int) by rw [Int.mul_comm]; rfl]
    rfl
  rw [e]
  refine ⟨?_, ?_⟩
  · have := Nat.mul_le_mul_left B.w (show i + 1 ≤ B.h from hi)
    rw [Nat.mul_add, Nat.mul_one] at this
    rw [Nat.mul_comm B.h B.w]
    omega
  · unfold plK
    have e1 : ((B.w * i + j : Nat) : Int) / (B.w : Int) = (((B.w * i + j) / B.w : Nat) : Int) := rfl
    have e2 : ((B.w * i + j : Nat) : Int) % (B.w : Int) = (((B.w * i + j) % B.w : Nat) : Int) := rfl
    rw [e1, e2, Nat.mul_add_div w0, Nat.div_eq_of_lt hj, Nat.mul_add_mod, Nat.mod_eq_of_lt hj]
    rfl
theorem plK_inj {w a b : Nat} (hw : 0 < w) (h : plK w a = plK w b) : a = b := by
  rw [← noK_plK (k := a) hw, h, noK_plK hw]
end Pq

/-! rules of the machine: methods called where what they raise is caught; a suite that asks for more -/
namespace Pm
open PySem PySem.Spec L2
open PyProof.Rows
/-- a method's call, what it raises told at the locals of the place -/
def tMethT (C : Addr) (m : Str) (sp : Sp) (E : L2.St → XK) (ta : TE) (t : TA) : TE := fun σ H Q =>
  ta σ H fun x H1 => ∃ a dx fs, x = V.ref a ∧ H1 a = some (HO.ins C dx fs) ∧ fs.lookup m = none ∧ t σ H1 fun vs H2 => sp (x :: vs) H2 Q (E σ)
section
variable {X : Cx} {CX : CXT} {k : Nat} {f C : Addr} {fd : FuncData} {ps : List Str} {sp : Sp} {E : L2.St → XK} {m : Str} {pos apos : Pos} {e o : Expr} {es : List Expr} {ta : TE} {t : TA} {pl : Sem Bool}
theorem pe_methT (he : PE X o ta) (c : Cls X.K C) (hm : Meth X.K C m f) (F : FnOk X.prog X.w X.K X.mg X.base CX k f fd ps sp) (hr : Room k X.A) (hb : L2.Binds X.K fd ps []) (hx : ∀ σ, PassesAt CX X σ (E σ)) (ha : PA X (e :: es) t)
    (hst : starEach (e :: es) X.env = (false, eval e X.env) :: starEach es X.env := by rfl) (hpl : ((backTo pos (starEach es X.env)).any fun x => x.1) = false := by rfl)
    (ht : eval ((o.Attribute m apos).Call (e :: es) [] pos) X.env = (do
      let ov ← eval o X.env
      standAt apos.atName
      let __x ← holding [ov] (getMethod ov m pl)
      match __x with
        | (f, first) => callWith pos f first (backTo pos (starEach (e :: es) X.env)) (backToKw pos (keywordEach [] X.env))) := by rfl) :
    PE X ((o.Attribute m apos).Call (e :: es) [] pos) (tMethT C m sp E ta t) := .mk fun pins s σ H Q I h =>
  W.methodCall_KW (thn (he.run pins s σ H _ I h) fun u s1 x => by
    obtain ⟨x1, H1, I1, rx, a, dx, fs, ex, ea, l, q⟩ := x
    subst ex
    cases (show u = Value.ref a from rx)
    exact getmeth_ok I1 ea c hm l (W.callWith_K I1.ok.mod.kin hm.kp (thn (ha.run pos pins s1 σ H1 (fun vs H2 => sp (V.ref a :: vs) H2 Q (E σ)) I1 q) fun us s2 x => by
      obtain ⟨vs, H2, I2, r, q2⟩ := x
      exact ⟨I2.kIn, run_fnS F hr hb (hx σ) I2 (Paired.cons (show L2.RelV (V.ref a) (Value.ref a) from rfl) r) q2⟩) hst hpl)) ht
theorem pe_methT0 (he : PE X o ta) (c : Cls X.K C) (hm : Meth X.K C m f) (F : FnOk X.prog X.w X.K X.mg X.base CX k f fd ps sp) (hr : Room k X.A) (hb : L2.Binds X.K fd ps []) (hx : ∀ σ, PassesAt CX X σ (E σ))
    (ht : eval ((o.Attribute m apos).Call [] [] pos) X.env = (do
      let ov ← eval o X.env
      standAt apos.atName
      let __x ← holding [ov] (getMethod ov m pl)
      match __x with
        | (f, first) => callWith pos f first (backTo pos (starEach [] X.env)) (backToKw pos (keywordEach [] X.env))) := by rfl) :
    PE X ((o.Attribute m apos).Call [] [] pos) (tMethT C m sp E ta tNil) := .mk fun pins s σ H Q I h =>
  W.methodCall_KW (thn (he.run pins s σ H _ I h) fun u s1 x => by
    obtain ⟨x1, H1, I1, rx, a, dx, fs, ex, ea, l, q⟩ := x
    subst ex
    cases (show u = Value.ref a from rx)
    exact getmeth_ok I1 ea c hm l (W.callWith_K0 I1.kIn hm.kp (run_fnS F hr hb (hx σ) I1 (Paired.cons (show L2.RelV (V.ref a) (Value.ref a) from rfl) Paired.nil) q))) ht
end
/-- the scope of the comprehension that a def returns -/
def scRet (d : Scope) : Stmt → Scope
  | .Return (some (.ListComp _ _ sc _)) _ => sc
  | _ => d
/-- a suite under a condition -/
def tWhen (p : Prop) (t : TS) : TS := fun D σ H => p ∧ t D σ H
theorem pss_when {X : Cx} {b : List Stmt} {p : Prop} {t : TS} (h : p → PSs X b t) : PSs X b (tWhen p t) := .mk fun pins s σ H D I z => (h z.1).run pins s σ H D I z.2
/-- the address that a class is -/
def adr : Value → Addr
  | .ref a => a
  | _ => default
/-- such an exception's class, of which more is known -/
abbrev ExcP (K : PySem.W.Frag) (cls : Value) (d : Option Addr) : Prop := cls = .ref (adr cls) ∧ d = none ∧ ExcC K (adr cls)
theorem zc_of {K : PySem.W.Frag} {cls : Value} {d : Option Addr} {oe : Obj} (h : Zc cls d oe) (p : ExcP K cls d) : Zc (.ref (adr cls)) none oe := by
  rw [← p.1, ← p.2.1]
  exact h
end Pm

/-! second make: methods within a try; several handlers; errors with a made text -/
namespace Pv
open PySem PySem.Spec L2
open PyProof.Rows (envOfC)
section
variable {K : PySem.W.Frag} {es : Es} {st st1 st2 st3 : List Ob} {ta tb te : TE} {tc : TT} {t u : TS} {x y : It} {xs ys : List It} {r : Rv} {W : WE} {E : XK} {P : Post} {α : Type} {args : α → List It} {pre : α → Prop} {stf : α → List Ob} {out : α → Out}
theorem ev_methT {ts : TA} {C : Addr} {m : Str} {k : Nat} {fs : List (Str × It)} {EE : L2.St → XK} (a : α) (h0 : Ev K ta es st st1 (.ob k)) (hk : st1[k]? = some (.ins C fs)) (hf : fs.lookup m = none) (h : EvA K ts es st1 (stf a) xs) (hx : args a = .ob k :: xs) (hp : pre a) (ho : out a = .ret r st2) : Ev K (Pm.tMethT C m (spV K args pre stf out) EE ta ts) es st st2 r := .mk fun {G H ρ σ} S T {Q} q =>
  h0.run S T fun v G0 H0 ρ0 m0 S0 hv => by
    obtain ⟨p, rfl, hr⟩ := hv
    obtain ⟨dx, fv, hpp, _, _, _, hl⟩ := S0.ob k _ p hk hr
    refine ⟨p, dx, fv, rfl, hpp, look_none hl hf, h.run S0 (T.mv m0) fun vs G1 H1 ρ1 m1 S1 hv => ⟨a, G1, ρ1, hp, S1, ?_, ?_⟩⟩
    · rw [hx]
      exact .cons ⟨p, rfl, pre_get m1.pre hr⟩ hv
    · rw [ho]
      exact fun v G2 H2 ρ2 m2 S2 hr => q v G2 H2 ρ2 ((m0.trans m1).trans m2) S2 (hr.back (m0.trans m1))
theorem ex_methT {ts : TA} {C C' : Addr} {m : Str} {k : Nat} {fs : List (Str × It)} (a : α) (h0 : Ev K ta es st st1 (.ob k)) (hk : st1[k]? = some (.ins C fs)) (hf : fs.lookup m = none) (h : EvA K ts es st1 (stf a) xs) (hx : args a = .ob k :: xs) (hp : pre a) (ho : out a = .exc C' st2) : ExC K W (Pm.tMethT C m (spV K args pre stf out) (fun σ cls d H => W cls d σ H) ta ts) es st C' st2 := .mk fun {G H ρ σ} S T q {Q} =>
  h0.run S T fun v G0 H0 ρ0 m0 S0 hv => by
    obtain ⟨p, rfl, hr⟩ := hv
    obtain ⟨dx, fv, hpp, _, _, _, hl⟩ := S0.ob k _ p hk hr
    refine ⟨p, dx, fv, rfl, hpp, look_none hl hf, h.run S0 (T.mv m0) fun vs G1 H1 ρ1 m1 S1 hv => ⟨a, G1, ρ1, hp, S1, ?_, ?_⟩⟩
    · rw [hx]
      exact .cons ⟨p, rfl, pre_get m1.pre hr⟩ hv
    · rw [ho]
      exact fun G2 H2 ρ2 m2 S2 => q G2 H2 ρ2 ((m0.trans m1).trans m2) S2
/-- the first of some handlers that takes it -/
def Caught (K : PySem.W.Frag) (W : WE) (P : Post) (C : Addr) (e : Es) (s : List Ob) : List (Value × (Addr → Value → Option Addr → TS)) → Prop
  | [] => False
  | (c, ts) :: r => (PySem.W.exmOne K (.ref C) c = some true ∧ ∀ a, Ws K W (ts a (.ref C) none) e s P) ∨ (PySem.W.exmOne K (.ref C) c = some false ∧ Caught K W P C e s r)
theorem caught_run {Wout : WE} {G H G' H' : Hp} {ρ ρ' : List Addr} {σ : L2.St} {D : Ends} {C : Addr} {e : Es} {s : List Ob} (k : Dk K W G H ρ P D) (m : Mv G H ρ G' H' ρ') (S : Sh K G' H' ρ' s) (T : Se K G' ρ' σ e) : ∀ {l : List (Value × (Addr → Value → Option Addr → TS))}, Caught K W P C e s l → wMany K Wout D l (.ref C) none σ H'
  | [], h => h.elim
  | (c, ts) :: r, h => by
    rcases h with ⟨e1, hs⟩ | ⟨e1, hs⟩
    · exact ⟨true, e1, fun _ a ha => (hs a).run S T (k.mono m), fun z => nomatch z⟩
    · exact ⟨false, e1, fun z => (nomatch z), fun _ => caught_run k m S T hs⟩
/-- try: body, and handlers of which one takes it -/
theorem w_tryM {l : List (Value × (Addr → Value → Option Addr → TS))} {tb : WE → TS} {Wout : WE} (h : ∀ W', Ws K W' (tb W') es st ⟨P.nx, P.rt, P.bk, P.ct, fun C e s => Caught K W P C e s l⟩) :
    Ws K W (fun D σ H => tb (wMany K Wout D l) D σ H) es st P := .mk fun {G H ρ σ D} S T k =>
  (h _).run S T ⟨k.nx, k.bk, k.ct, k.rt, fun G' H' ρ' σ' es' C s hx m S' T' => caught_run k m S' T' hx⟩
/-- the same of one handler -/
theorem w_try1 {c : Value} {ts : Addr → Value → Option Addr → TS} {tb : WE → TS} {Wout : WE} (h : ∀ W', Ws K W' (tb W') es st ⟨P.nx, P.rt, P.bk, P.ct, fun C e s => PySem.W.exmOne K (.ref C) c = some true ∧ ∀ a, Ws K W (ts a (.ref C) none) e s P⟩) :
    Ws K W (fun D σ H => tb (wOnly K c ts Wout D) D σ H) es st P := .mk fun {G H ρ σ D} S T k =>
  (h _).run S T ⟨k.nx, k.bk, k.ct, k.rt, fun G' H' ρ' σ' es' C s hx m S' T' => ⟨true, hx.1, fun _ a ha => (hx.2 a).run S' T' (k.mono m), fun z => nomatch z⟩⟩
theorem w_when {p : Prop} (hp : p) (h : Ws K W t es st P) : Ws K W (Pm.tWhen p t) es st P := .mk fun {G H ρ σ D} S T k => ⟨hp, h.run S T k⟩
/-- try: body, except c as e: return isinstance(e, ValueError) -/
theorem w_tryIs {c : Value} {i : Nat} {tb : WE → TS} {Wout : WE} {pp : Value → Option Addr → Prop}
    (h : ∀ W', Ws K W' (tb W') es st ⟨P.nx, P.rt, P.bk, P.ct, fun C e s => PySem.W.exmOne K (.ref C) c = some true ∧ pp (.ref C) none ∧ PySem.W.kitOne K (.ref C) (.type "ValueError") = some true ∧ i < e.length ∧ P.rt (.dat (.bool true)) s⟩) :
    Ws K W (fun D σ H => tb (wAs K c i (fun a cls d => Pm.tWhen (pp cls d) (tRet (tCB (rIsE K (Pm.adr cls) a) (tCons (tVar i) (tCons (tC (.ty "ValueError")) tNil))))) Wout D) D σ H) es st P := .mk fun {G H ρ σ D} S T k =>
  (h _).run S T ⟨k.nx, k.bk, k.ct, k.rt, fun G' H' ρ' σ' es' C s ⟨e1, e2, e3, hi, hx⟩ m S' T' => by
    have hl : i < σ'.length := by
      rw [← T'.len]
      exact hi
    exact ⟨true, e1, fun _ a ha => ⟨e2, .ref a, List.getElem?_set_self hl, .ty "ValueError", .type "ValueError", true, rfl, fun u hu => hu, e3, k.rt _ G' H' ρ' _ _ hx m S' (Dq.bl true)⟩, fun z => nomatch z⟩⟩
theorem kit_val {C : Addr} (h : PySem.W.subIn K (.ref C) (.type "ValueError") = some true) : PySem.W.kitOne K (.ref C) (.type "ValueError") = some true := h
/-! texts made of parts -/
structure EvJ (K : PySem.W.Frag) (ts : List TE) (es : Es) (st : List Ob) (n : Nat) : Prop where
  run : ∀ {G H : Hp} {ρ : List Addr} {σ : L2.St}, Sh K G H ρ st → Se K G ρ σ es → ∀ (acc : Str) {Q : Str → Hp → Prop}, acc.length + n ≤ sizeLine → (∀ y G' H' ρ', Mv G H ρ G' H' ρ' → Sh K G' H' ρ' st → Q y H') → tJs ts acc σ H Q
theorem ej_nil : EvJ K [] es st 0 := .mk fun {G H ρ σ} S T acc {Q} _ q => q _ G H ρ Mv.refl S
theorem ej_cons {ts : List TE} {n k : Nat} {z : Str} (h : Ev K te es st st (.dat (.str z))) (hz : z.length ≤ k) (h2 : EvJ K ts es st n) : EvJ K (te :: ts) es st (k + n) := .mk fun {G H ρ σ} S T acc {Q} hl q =>
  h.run S T fun v G1 H1 ρ1 m1 S1 hv => by
    have e := dq_str hv
    subst e
    have l : (acc ++ z).length = acc.length + z.length := Str.length_append _ _
    exact ⟨z, rfl, by omega, h2.run S1 (T.mv m1) _ (by omega) fun y G2 H2 ρ2 m2 S2 => q y G2 H2 ρ2 (m1.trans m2) S2⟩
theorem ev_fmt {i : Int} (h : Ev K te es st st1 (.dat (.int i))) (hz : i.natAbs.log2 < 1920) : Ev K (tFmt te) es st st1 (.dat (.str (toString i))) := .mk fun {G H ρ σ} S T {Q} q =>
  h.run S T fun v G1 H1 ρ1 m1 S1 hv => .inr ⟨i, dq_int hv, hz, q _ G1 H1 ρ1 m1 S1 (Dq.str _)⟩
/-- raise C(a text of parts) -/
theorem w_raiseJ {ts : List TE} {C : Addr} {n : Nat} (h : EvJ K ts es st n) (hn : n ≤ 10000) (hx : P.ex C es st) : Ws K W (fun _ σ H => (fun σ H Q => tJs ts Str.empty σ H fun out H1 => Q (V.str out) H1) σ H fun _ H1 => W (.ref C) none σ H1) es st P := .mk fun {G H ρ σ D} S T k =>
  h.run S T Str.empty (by
    have : sizeLine = 2 ^ 24 := rfl
    have e : Str.empty.length = 0 := rfl
    omega) fun y G1 H1 ρ1 m1 S1 => k.ex _ _ _ _ _ _ _ hx m1 S1 (T.mv m1)
end
end Pv

/-! sheets: what they hold, what they refuse -/
namespace Pq
open PySem PySem.Spec L2 Pr Pl Pv
open Evl (Ex)
open PyProof.Rows (envOfC)
section
variable {P : Program} {w : World} {K : PySem.W.Frag} {mg : Str → Option Value} {base : Heap} {es : Es} {st st1 st2 st3 : List Ob} {ta tb tc te : TE} {tt tu : TT} {r : Rv} {W : WE} {E : XK} {PP : Post}
/-! defs that may raise and leave the store -/
inductive Re where
  | ret (r : Rv)
  | exc (C : Addr)
def outR (st : List Ob) : Re → Pv.Out
  | .ret r => .ret r st
  | .exc C => .exc C st
theorem outR_st (st : List Ob) : ∀ x : Re, outSt (outR st x) = st
  | .ret _ => rfl
  | .exc _ => rfl
abbrev spX {α : Type} (K : PySem.W.Frag) (args : α → List Pv.It) (pre : List Ob → α → Prop) (res : α → Re) : Sp := spV (α := List Ob × α) K (fun a => args a.2) (fun a => pre a.1 a.2) (fun a => a.1) (fun a => outR a.1 (res a.2))
abbrev postX (st : List Ob) (re : Re) : Post := { nx := fun _ s => ∃ r, re = .ret r ∧ EndP st r (.dat .none) s, rt := fun r' s => ∃ r, re = .ret r ∧ EndP st r r' s, ex := fun C _ s => re = .exc C ∧ ∃ ex, s = st ++ ex }
theorem fn_x {α : Type} {args : α → List Pv.It} {pre : List Ob → α → Prop} {res : α → Re} {x qual : Str} {st0 : Stmt} {f : Addr} {fd : FuncData} {N ps : List Str} {k : Nat} (F : Fun K x qual st0 f fd) (S : FnScope N ps (defScope st0)) (hl : ∀ a, (args a).length = ps.length)
    (h : ∀ (cdv : Value) (A : Around) (outer : List Env) (s : Shared) (H : Hp) (E : XK), Room k (A.deeper (envOfC qual (defScope st0) s.heap.objs.size f cdv)) →
      ∃ t, PSs (cxOf (L2.CX P w) P w K mg base N qual (defScope st0) f cdv A outer s H E) (defBody st0) t ∧ ∀ a st, pre st a → Ws K (cW E) t (startE N (args a)) st (postX st (res a))) :
    FnOk P w K mg base (L2.CX P w) (k + 1) f fd ps (spX K args pre res) := by
  refine F.okX S (fun vs H Q E ⟨a, G, ρ, _, _, hv, _⟩ => by rw [its_len hv, hl]) (fun cdv A outer s H vs Q E hr hsp => ?_)
  obtain ⟨⟨st, a⟩, G, ρ, hp, Sa, hv, q⟩ := hsp
  obtain ⟨t, ht, hw⟩ := h cdv A outer s H E hr
  have ok : okSt st = true := okSt_of Sa
  have D := dk_fn (by rw [outR_st, Sa.len]; exact Nat.le_refl _) q
  refine ⟨t, ht, (hw a st hp).run Sa (se_start hv) ⟨fun G' H' ρ' σ' es' s hn m S' T' => ?_, fun _ _ _ _ _ _ z => z.elim, fun _ _ _ _ _ _ z => z.elim, fun v G' H' ρ' r s hn m S' hv' => ?_, fun G' H' ρ' σ' es' C s hn m S' T' => ?_⟩⟩
  · obtain ⟨r0, e0, ex, e, z⟩ := hn
    refine D.nx G' H' ρ' σ' es' s ?_ m S' T'
    show RetOk _ _ (outR st (res a))
    rw [e0]
    exact ⟨ex, e, ok, z⟩
  · obtain ⟨r0, e0, ex, e, z⟩ := hn
    refine D.rt v G' H' ρ' r s ?_ m S' hv'
    show RetOk _ _ (outR st (res a))
    rw [e0]
    exact ⟨ex, e, ok, z⟩
  · obtain ⟨e0, ex, e⟩ := hn
    refine D.ex G' H' ρ' σ' es' C s ?_ m S' T'
    show ExcOk _ _ (outR st (res a))
    rw [e0]
    exact ⟨rfl, ex, e, ok⟩
section
variable {α : Type} {args : α → List Pv.It} {pre : List Ob → α → Prop} {res : α → Re} {ts : TA} {xs : List Pv.It}
/-- a method that leaves the store: its value -/
theorem em_x {C : Addr} {m : Str} {k : Nat} {fs : List (Str × Pv.It)} (a : α) (h0 : Ev K ta es st st1 (.ob k)) (hk : st1[k]? = some (.ins C fs)) (hf : fs.lookup m = none) (h : EvA K ts es st1 st2 xs) (hx : args a = .ob k :: xs) (hp : pre st2 a) (ho : res a = .ret r) : Ev K (tMeth C m (spX K args pre res) [] E ta ts) es st st2 r :=
  ev_meth (α := List Ob × α) (args := fun a => args a.2) (pre := fun a => pre a.1 a.2) (stf := fun a => a.1) (out := fun a => outR a.1 (res a.2)) (st2, a) h0 hk hf h hx hp (by rw [ho]; rfl)
/-- it raises -/
theorem ex_x {C C' : Addr} {m : Str} {k : Nat} {fs : List (Str × Pv.It)} (a : α) (h0 : Ev K ta es st st1 (.ob k)) (hk : st1[k]? = some (.ins C fs)) (hf : fs.lookup m = none) (h : EvA K ts es st1 st2 xs) (hx : args a = .ob k :: xs) (hp : pre st2 a) (ho : res a = .exc C') : ExC K (cW E) (tMeth C m (spX K args pre res) [] E ta ts) es st C' st2 :=
  ex_meth (α := List Ob × α) (args := fun a => args a.2) (pre := fun a => pre a.1 a.2) (stf := fun a => a.1) (out := fun a => outR a.1 (res a.2)) (st2, a) h0 hk hf h hx hp (by rw [ho]; rfl)
end
theorem em_q {α : Type} {args : α → List Pv.It} {pre : List Ob → α → Prop} {res : α → Rv} {ts : TA} {xs : List Pv.It} {C : Addr} {m : Str} {k : Nat} {fs : List (Str × Pv.It)} (a : α) (h0 : Ev K ta es st st1 (.ob k)) (hk : st1[k]? = some (.ins C fs)) (hf : fs.lookup m = none) (h : EvA K ts es st1 st2 xs) (hx : args a = .ob k :: xs) (hp : pre st2 a) : Ev K (tMeth C m (spQ K args pre res) [] E ta ts) es st st2 (res a) :=
  ev_meth (α := List Ob × α) (args := fun a => args a.2) (pre := fun a => pre a.1 a.2) (stf := fun a => a.1) (out := fun a => .ret (res a.2) a.1) (st2, a) h0 hk hf h hx hp rfl
/-- a op b op' c, of ints -/
theorem eb_chain {g g' : Int → Int → V} {i j l : Int} {a b : Bool} (ha : Ev K ta es st st (.dat (.int i))) (hb : Ev K tb es st st (.dat (.int j))) (hc : Ev K tc es st st (.dat (.int l))) (hg : g i j = .bl a) (hg' : g' j l = .bl b) : EvB K (tTest (tChain (rI0 g) (rI0 g') ta tb tc)) es st st (a && b) := .mk fun {G H ρ σ} S T {Q} q =>
  ha.run S T fun v G1 H1 ρ1 m1 S1 hv => hb.run S1 (T.mv m1) fun u G2 H2 ρ2 m2 S2 hu => by
    refine ⟨i, j, dq_int hv, dq_int hu, a, hg, ?_⟩
    cases a with
    | false => exact iteF ⟨false, rfl, q G2 H2 ρ2 (m1.trans m2) S2⟩
    | true => exact iteT (hc.run S2 (T.mv (m1.trans m2)) fun z G3 H3 ρ3 m3 S3 hz => ⟨j, l, dq_int hu, dq_int hz, b, hg', q G3 H3 ρ3 ((m1.trans m2).trans m3) S3⟩)
theorem w_ifNX {C : Addr} {rd : R2} {t u : TS} (h : ExC K W ta es st C st1) (hn : PP.ex C es st1) : Ws K W (tIfS (tTest (tOp rd ta tb)) t u) es st PP := .mk fun {G H ρ σ D} S T k => h.run S T fun G1 H1 ρ1 m1 S1 => k.ex _ _ _ _ _ C _ hn m1 S1 (T.mv m1)
/-- what a dict holds, while it is walked -/
theorem ev_dgetF {k : Nat} {p : QQ} {od : Obj} {kvs : List (List Key × V)} {m : List (QQ × Pv.It)} {x : Pv.It} (ha : Ev K ta es st st1 (.ob k)) (hb : Ev K tb es st1 st2 (.dat (.tuple [.int p.1, .int p.2]))) (hk : st2[k]? = some (.dicF od kvs m)) (hm : m.lookup p = some x) : Ev K (tDGet ta tb) es st st2 (.it x) := .mk fun {G H ρ σ} S T {Q} q =>
  ha.run S T fun u G1 H1 ρ1 m1 S1 hu => hb.run S1 (T.mv m1) fun v G2 H2 ρ2 m2 S2 hv => by
    obtain ⟨a, rfl, hr⟩ := hu
    obtain ⟨hp, hx⟩ := S2.ob k _ a hk (pre_get m2.pre hr)
    obtain ⟨b, rfl, hb⟩ := key_at hv
    rcases val_at hx p with ⟨z, _⟩ | ⟨y, w, h1, h2, h3⟩
    · rw [z] at hm
      cases hm
    · rw [h1] at hm
      cases hm
      refine ⟨a, w, rfl, .inr ⟨kvs, pk p, b, .inr ⟨od, hp⟩, rfl, S2.ex _ _ hb, h2.symm⟩, q w G2 H2 ρ2 (m1.trans m2) S2 h3⟩
end
/-! ### a sheet -/
def onS (B : Bx) (r c : Int) : Bool := (decide (0 ≤ r) && decide (r < B.h)) && (decide (0 ≤ c) && decide (c < B.w))
theorem onS_iff {B : Bx} (z : Sz B) {r c : Int} : onS B r c = true ↔ B.has r c := by
  have a0 := z.a0
  have b0 := z.b0
  unfold onS Bx.has
  simp only [Bool.and_eq_true, decide_eq_true_eq]
  omega
def shFs (B : Bx) (j : Nat) : List (Str × Pv.It) := [("high", .dat (.int B.h)), ("wide", .dat (.int B.w)), ("_rules", .ob j)]
def shF2 (B : Bx) : List (Str × Pv.It) := [("high", .dat (.int B.h)), ("wide", .dat (.int B.w))]
/-- in the store: a sheet, and the dict of its rules -/
structure Ss (C : Addr) (B : Bx) (k j : Nat) (m : List (QQ × Pv.It)) (st : List Ob) : Prop where
  s : st[k]? = some (.ins C (shFs B j))
  d : st[j]? = some (.dic m)
theorem Ss.app {C : Addr} {B : Bx} {k j : Nat} {m : List (QQ × Pv.It)} {st ex : List Ob} (h : Ss C B k j m st) : Ss C B k j m (st ++ ex) := ⟨by rw [List.getElem?_append_left (List.getElem?_eq_some_iff.mp h.s).1]; exact h.s, by rw [List.getElem?_append_left (List.getElem?_eq_some_iff.mp h.d).1]; exact h.d⟩
/-- all that a rule names as references, from the right -/
def refsAll (r : Rl) : List Rf := r.outer.flatMap refs
theorem refsAll_in {B : Bx} {r : Rl} (h : inb B r) : ∀ x ∈ refsAll r, B.has x.r x.c := fun x hx => by
  obtain ⟨o, ho, hx⟩ := List.mem_flatMap.mp hx
  exact inb_refs (inb_outer h o ho) x hx
theorem refs_len (r : Rl) : (refs r).length ≤ 2 := by cases r <;> exact Nat.le_of_ble_eq_true rfl
theorem refsAll_len (r : Rl) : (refsAll r).length ≤ 2 * r.size := by
  unfold refsAll
  rw [← Rl.outer_len]
  induction r.outer with
  | nil => exact Nat.le_refl _
  | cons o l ih =>
    have := refs_len o
    rw [List.flatMap_cons, List.length_append, List.length_cons]
    omega
/-- whether all lie on the sheet -/
def refsOn (B : Bx) (r : Rl) : Bool := (refsAll r).all fun x => onS B x.r x.c
/-- a new sheet's rules -/
def num0 : Pv.It := .dat (Rl.num 0).d
def mNew (B : Bx) : List (QQ × Pv.It) := putAll (fun p : QQ => p) (fun _ => num0) (areaP 0 0 (B.h - 1) (B.w - 1))
theorem area_has {B : Bx} (z : Sz B) {p : QQ} : p ∈ areaP 0 0 (B.h - 1) (B.w - 1) ↔ B.has p.1 p.2 := by
  obtain ⟨h0, w0, _, _, a0, b0⟩ := z
  rw [mem_area]
  unfold Bx.has
  omega
/-- what is refused, and why: true: off, false: too deep -/
def barK (B : Bx) (p : QQ) (r : Rl) : Option Bool := if onS B p.1 p.2 = false then some true else if 8 < dp r then some false else if refsOn B r then none else some true
/-- a sheet's rules, as they are told: f; the sheet's dict, another one that is kept beside -/
structure Kp (B : Bx) (f : QQ → Rl) (mk ms : List (QQ × Pv.It)) : Prop where
  s : ∀ p : QQ, B.has p.1 p.2 → ms.lookup p = some (.dat (f p).d)
  k : ∀ b ∈ mk, B.has b.1.1 b.1.2 ∧ b.2 = .dat (f b.1).d
  d : ∀ q, dp (f q) ≤ 8
theorem mem_putM {m : List (QQ × Pv.It)} {p : QQ} {x : Pv.It} {b : QQ × Pv.It} (h : b ∈ putM m p x) : b = (p, x) ∨ b ∈ m ∧ b.1 ≠ p := by
  unfold putM at h
  by_cases z : (m.any fun b => b.1 == p) = true
  · rw [if_pos z] at h
    obtain ⟨a, ha, rfl⟩ := List.mem_map.mp h
    by_cases e : a.1 = p
    · rw [if_pos e, e]
      exact .inl rfl
    · rw [if_neg e]
      exact .inr ⟨ha, e⟩
  · rw [if_neg z] at h
    rcases List.mem_append.mp h with h | h
    · refine .inr ⟨h, fun e => z (List.any_eq_true.mpr ⟨b, h, ?_⟩)⟩
      rw [e]
      exact beq_self_eq_true p
    · exact .inl (List.mem_singleton.mp h)
theorem look_mem {m : List (QQ × Pv.It)} {b : QQ × Pv.It} (h : b ∈ m) : ∃ x, m.lookup b.1 = some x ∧ (b.1, x) ∈ m := by
  induction m with
  | nil => cases h
  | cons a m ih =>
    obtain ⟨q, y⟩ := a
    rw [List.lookup_cons]
    by_cases z : b.1 = q
    · rw [z, beq_self_eq_true]
      exact ⟨y, rfl, List.mem_cons_self⟩
    · rw [beq_eq_false_iff_ne.mpr z]
      rcases List.mem_cons.mp h with e | h
      · rw [e] at z
        exact absurd rfl z
      · obtain ⟨x, h1, h2⟩ := ih h
        exact ⟨x, h1, List.mem_cons_of_mem _ h2⟩
def upF (f : QQ → Rl) (p : QQ) (r : Rl) : QQ → Rl := fun q => if q = p then r else f q
theorem Kp.put {B : Bx} {f : QQ → Rl} {mk ms : List (QQ × Pv.It)} (h : Kp B f mk ms) {p : QQ} (hp : B.has p.1 p.2) (r : Rl) (hd : dp r ≤ 8) : Kp B (upF f p r) (putM mk p (.dat r.d)) (putM ms p (.dat r.d)) where
  s := fun q hq => by
    rw [lookup_putM]
    unfold upF
    by_cases z : q = p
    · rw [if_pos z, if_pos z]
    · rw [if_neg z, if_neg z]
      exact h.s q hq
  k := fun b hb => by
    rcases mem_putM hb with rfl | ⟨hb, z⟩
    · refine ⟨hp, ?_⟩
      unfold upF
      rw [if_pos rfl]
    · obtain ⟨h1, h2⟩ := h.k b hb
      refine ⟨h1, ?_⟩
      unfold upF
      rw [if_neg z]
      exact h2
  d := fun q => by
    unfold upF
    by_cases z : q = p
    · rw [if_pos z]
      exact hd
    · rw [if_neg z]
      exact h.d q
theorem Kp.look {B : Bx} {f : QQ → Rl} {mk ms : List (QQ × Pv.It)} (h : Kp B f mk ms) {b : QQ × Pv.It} (hb : b ∈ mk) : B.has b.1.1 b.1.2 ∧ mk.lookup b.1 = some (.dat (f b.1).d) ∧ ms.lookup b.1 = some (.dat (f b.1).d) := by
  obtain ⟨x, h1, h2⟩ := look_mem hb
  obtain ⟨h3, h4⟩ := h.k _ h2
  have h4 : x = .dat (f b.1).d := h4
  exact ⟨h3, h4 ▸ h1, h.s _ h3⟩
theorem areaN_le {B : Bx} (z : Sz B) : (areaP 0 0 ((B.h : Int) - 1) ((B.w : Int) - 1)).length ≤ 144 := by
  have := area_le (B := B) (r1 := 0) (c1 := 0) (r2 := (B.h : Int) - 1) (c2 := (B.w : Int) - 1) (by have := z.h0; have := z.w0; have := z.a0; have := z.b0; unfold Bx.has; omega) (by have := z.h0; have := z.w0; have := z.a0; have := z.b0; unfold Bx.has; omega)
  have := sz_area z
  omega
theorem okIt_le {n n' : Nat} (h : n ≤ n') : ∀ {x : Pv.It}, okIt n x = true → okIt n' x = true
  | .dat _, _ => rfl
  | .ob i, z => decide_eq_true (Nat.lt_of_lt_of_le (of_decide_eq_true z) h)
theorem okOb_le {n n' : Nat} (h : n ≤ n') : ∀ {o : Ob}, okOb n o = true → okOb n' o = true
  | .lst xs, z => List.all_eq_true.mpr fun x hx => okIt_le h (List.all_eq_true.mp z x hx)
  | .dic m, z => List.all_eq_true.mpr fun x hx => okIt_le h (List.all_eq_true.mp z x hx)
  | .dicF _ _ m, z => List.all_eq_true.mpr fun x hx => okIt_le h (List.all_eq_true.mp z x hx)
  | .ins _ fs, z => List.all_eq_true.mpr fun x hx => okIt_le h (List.all_eq_true.mp z x hx)
  | .ext _, _ => rfl
  | .nil, _ => rfl
theorem mNew_look {B : Bx} (z : Sz B) {p : QQ} (h : B.has p.1 p.2) : (mNew B).lookup p = some num0 :=
  lookup_putAll (f := fun p : QQ => p) (g := fun _ => num0) ((area_has z).mpr h) fun _ _ _ => rfl
/-! a store, one thing of it changed, and one more behind -/
theorem getL {st : List Ob} {j : Nat} {o a : Ob} : (st.set j o ++ [a])[st.length]? = some a := by
  rw [List.getElem?_append_right (by rw [List.length_set]; exact Nat.le_refl _), List.length_set, Nat.sub_self]
  rfl
theorem setL {st : List Ob} {j : Nat} {o a c : Ob} : (st.set j o ++ [a]).set st.length c = st.set j o ++ [c] := by
  rw [List.set_append_right _ _ (by rw [List.length_set]; exact Nat.le_refl _), List.length_set, Nat.sub_self]
  rfl
theorem setJ {st g : List Ob} {j : Nat} {o c : Ob} (h : j < st.length) : (st.set j o ++ g).set j c = st.set j c ++ g := by
  rw [List.set_append_left _ _ (by rw [List.length_set]; exact h), List.set_set]
theorem getJ {st g : List Ob} {j : Nat} {o : Ob} (h : j < st.length) : (st.set j o ++ g)[j]? = some o := by
  rw [List.getElem?_append_left (by rw [List.length_set]; exact h), List.getElem?_set_self h]
theorem Ss.ne {C : Addr} {B : Bx} {k j : Nat} {m : List (QQ × Pv.It)} {st : List Ob} (h : Ss C B k j m st) : j ≠ k := fun z => by
  have h1 := h.s
  have h2 := h.d
  rw [z, h1] at h2
  cases h2
theorem Ss.lt {C : Addr} {B : Bx} {k j : Nat} {m : List (QQ × Pv.It)} {st : List Ob} (h : Ss C B k j m st) : j < st.length := (List.getElem?_eq_some_iff.mp h.d).1
theorem Ss.set {C : Addr} {B : Bx} {k j : Nat} {m m' : List (QQ × Pv.It)} {st g : List Ob} (h : Ss C B k j m st) : Ss C B k j m' (st.set j (.dic m') ++ g) where
  s := by
    rw [List.getElem?_append_left (by rw [List.length_set]; exact (List.getElem?_eq_some_iff.mp h.s).1), List.getElem?_set_ne h.ne]
    exact h.s
  d := getJ h.lt
theorem barK_none {B : Bx} (z : Sz B) {p : QQ} {r : Rl} (hp : B.has p.1 p.2) (hd : dp r ≤ 8) (hr : refsOn B r = true) : barK B p r = none := by
  unfold barK
  rw [if_neg (by rw [(onS_iff z).mpr hp]; exact Bool.noConfusion), if_neg (by omega), if_pos hr]
/-- a place from its number -/
def plI (w : Nat) (a : Int) : QQ := (a / (w : Int), a % (w : Int))
theorem plI_has {B : Bx} (z : Sz B) {a : Int} (h0 : 0 ≤ a) (h : a < (B.h : Int) * B.w) : B.has (plI B.w a).1 (plI B.w a).2 := by
  have q := plK_has z (k := a.toNat) (by
    have : ((B.h * B.w : Nat) : Int) = (B.h : Int) * B.w := Int.natCast_mul _ _
    omega)
  unfold plK at q
  rw [Int.toNat_of_nonneg h0] at q
  exact q
theorem okDats {n : Nat} {m : List (QQ × Pv.It)} (h : ∀ b ∈ m, ∃ d, b.2 = Pv.It.dat d) : okOb n (.dic m) = true := List.all_eq_true.mpr fun b hb => by
  obtain ⟨d, e⟩ := h b hb
  rw [e]
  rfl
/-! rules as data that are compared -/
theorem rl_shaped {r : Rl} (h : dp r ≤ 8) : SeqAt.shaped r.d = true := by
  have lay : ∀ r : Rl, r.d.canLay0 = true := fun r => by
    have rf : ∀ x : Rf, x.d.canLay0 = true := fun x => rfl
    induction r with
    | num n => simp [Rl.d, PyData.canLay0, PyData.canLayAll0]; decide +kernel
    | cell x => simp [Rl.d, PyData.canLay0, PyData.canLayAll0, rf]; decide +kernel
    | sum x y => simp [Rl.d, PyData.canLay0, PyData.canLayAll0, rf]; decide +kernel
    | most x y => simp [Rl.d, PyData.canLay0, PyData.canLayAll0, rf]; decide +kernel
    | add a b h1 h2 => simp [Rl.d, PyData.canLay0, PyData.canLayAll0, h1, h2]; decide +kernel
    | sub a b h1 h2 => simp [Rl.d, PyData.canLay0, PyData.canLayAll0, h1, h2]; decide +kernel
    | mul a b h1 h2 => simp [Rl.d, PyData.canLay0, PyData.canLayAll0, h1, h2]; decide +kernel
    | pick a b c h1 h2 h3 => simp [Rl.d, PyData.canLay0, PyData.canLayAll0, h1, h2, h3]; decide +kernel
    | look a x y b h1 h2 => simp [Rl.d, PyData.canLay0, PyData.canLayAll0, h1, h2, rf]; decide +kernel
  have dep : ∀ r : Rl, r.d.depth ≤ dp r + 1 := fun r => by
    have rf : ∀ x : Rf, x.d.depth = 1 := fun x => rfl
    induction r with
    | num n => simp [Rl.d, PyData.depth, PyData.depthAll, dp]
    | cell x => simp [Rl.d, PyData.depth, PyData.depthAll, dp, rf]
    | sum x y => simp [Rl.d, PyData.depth, PyData.depthAll, dp, rf]
    | most x y => simp [Rl.d, PyData.depth, PyData.depthAll, dp, rf]
    | add a b h1 h2 => simp [Rl.d, PyData.depth, PyData.depthAll, dp]; omega
    | sub a b h1 h2 => simp [Rl.d, PyData.depth, PyData.depthAll, dp]; omega
    | mul a b h1 h2 => simp [Rl.d, PyData.depth, PyData.depthAll, dp]; omega
    | pick a b c h1 h2 h3 => simp [Rl.d, PyData.depth, PyData.depthAll, dp]; omega
    | look a x y b h1 h2 => simp [Rl.d, PyData.depth, PyData.depthAll, dp, rf]; omega
  have := dep r
  unfold SeqAt.shaped
  rw [lay r, Bool.true_and]
  exact decide_eq_true (by omega)
theorem rl_eqv {r : Rl} (h : dp r ≤ 8) : PyData.eqv r.d r.d = true := SeqAt.eqv_refl _ (SeqAt.canLay_of_shaped (rl_shaped h))
/-- two rules that are the same -/
theorem ev_neR {K : PySem.W.Frag} {es : Es} {st st1 st2 : List Ob} {ta tb : TE} {r : Rl} (ha : Ev K ta es st st1 (.dat r.d)) (hb : Ev K tb es st1 st2 (.dat r.d)) (h : dp r ≤ 8) : Ev K (tOp (rNeD K) ta tb) es st st2 (.dat (.bool false)) :=
  ev_is (ev_neD ha hb (rl_shaped h) (rl_shaped h)) (by rw [rl_eqv h]; rfl)
end Pq

/-! places that need others: which come to an end; the order in which they are taken -/
namespace Pq
open PySem PySem.Spec L2 Pr Pl Pv
/-- it rests on no ring -/
inductive Fr (nd : QQ → List QQ) : QQ → Prop where
  | mk {p : QQ} (h : ∀ x ∈ nd p, Fr nd x) : Fr nd p
theorem Fr.inv {nd : QQ → List QQ} {p : QQ} (h : Fr nd p) : ∀ x ∈ nd p, Fr nd x := by
  cases h with
  | mk h => exact h
/-- one need less for each of some; those that lack nothing more are ready -/
def less (ms : QQ → Int) (R : List QQ) : List QQ → (QQ → Int) × List QQ
  | [] => (ms, R)
  | q :: N => less (fun x => if x = q then ms x - 1 else ms x) (if ms q - 1 = 0 then R ++ [q] else R) N
def need1 (V : List QQ) (nd : QQ → List QQ) (p : QQ) : List QQ := V.filter fun q => decide (p ∈ nd q)
def kLoop (V : List QQ) (nd : QQ → List QQ) : Nat → List QQ → List QQ → (QQ → Int) → List QQ
  | 0, O, _, _ => O
  | n + 1, O, R, ms => match R.getLast? with
    | none => O
    | some o => kLoop V nd n (O ++ [o]) (less ms R.dropLast (need1 V nd o)).2 (less ms R.dropLast (need1 V nd o)).1
def ms0 (nd : QQ → List QQ) : QQ → Int := fun p => (nd p).length
def rd0 (V : List QQ) (nd : QQ → List QQ) : List QQ := V.filter fun p => decide (ms0 nd p = 0)
def kahn (V : List QQ) (nd : QQ → List QQ) : List QQ := kLoop V nd (V.length + 1) [] (rd0 V nd) (ms0 nd)
/-- the lists of what is needed -/
structure Nd (V : List QQ) (nd : QQ → List QQ) : Prop where
  dup : V.Nodup
  each : ∀ p ∈ V, (nd p).Nodup
  sub : ∀ p ∈ V, ∀ x ∈ nd p, x ∈ V
/-- how many needs of p are still to come -/
def lack (nd : QQ → List QQ) (O : List QQ) (p : QQ) : Int := ((nd p).filter fun x => decide (x ∉ O)).length
structure Kn (V : List QQ) (nd : QQ → List QQ) (O R : List QQ) (ms : QQ → Int) : Prop where
  dup : (O ++ R).Nodup
  sub : ∀ p ∈ O ++ R, p ∈ V
  ms : ∀ p ∈ V, ms p = lack nd O p
  all : ∀ p ∈ V, (lack nd O p = 0 ↔ p ∈ O ++ R)
  top : ∀ (i : Nat) (p : QQ), O[i]? = some p → ∀ x ∈ nd p, x ∈ O.take i
theorem less_eq : ∀ (N : List QQ) (ms : QQ → Int) (R : List QQ), N.Nodup → (less ms R N).1 = (fun x => if x ∈ N then ms x - 1 else ms x) ∧ (less ms R N).2 = R ++ N.filter fun q => decide (ms q - 1 = 0)
  | [], ms, R, _ => by simp [less]
  | q :: N, ms, R, h => by
    obtain ⟨h1, h2⟩ := List.nodup_cons.mp h
    obtain ⟨e1, e2⟩ := less_eq N (fun x => if x = q then ms x - 1 else ms x) (if ms q - 1 = 0 then R ++ [q] else R) h2
    unfold less
    refine ⟨?_, ?_⟩
    · rw [e1]
      funext x
      by_cases hx : x = q
      · subst hx
        simp [h1]
      · simp [hx]
    · rw [e2, List.filter_cons]
      have e : (N.filter fun q' => decide ((fun x => if x = q then ms x - 1 else ms x) q' - 1 = 0)) = N.filter fun q' => decide (ms q' - 1 = 0) := by
        refine List.filter_congr fun x hx => ?_
        have : x ≠ q := fun z => h1 (z ▸ hx)
        simp [this]
      rw [e]
      by_cases hq : ms q - 1 = 0
      · rw [if_pos hq, if_pos (decide_eq_true hq)]
        simp
      · rw [if_neg hq, if_neg (by simpa using hq)]
theorem less_snoc : ∀ (N : List QQ) (q : QQ) (ms : QQ → Int) (R : List QQ), less ms R (N ++ [q]) = ((fun x => if x = q then (less ms R N).1 x - 1 else (less ms R N).1 x), if (less ms R N).1 q - 1 = 0 then (less ms R N).2 ++ [q] else (less ms R N).2)
  | [], q, ms, R => rfl
  | a :: N, q, ms, R => less_snoc N q _ _
theorem kLoop_nil (V : List QQ) (nd : QQ → List QQ) (n : Nat) (O : List QQ) (ms : QQ → Int) : kLoop V nd n O [] ms = O := by
  cases n <;> rfl
theorem kLoop_snoc (V : List QQ) (nd : QQ → List QQ) (n : Nat) (O R : List QQ) (o : QQ) (ms : QQ → Int) : kLoop V nd (n + 1) O (R ++ [o]) ms = kLoop V nd n (O ++ [o]) (less ms R (need1 V nd o)).2 (less ms R (need1 V nd o)).1 := by
  conv => lhs; unfold kLoop
  rw [List.getLast?_concat, List.dropLast_concat]
theorem mem_need1 {V : List QQ} {nd : QQ → List QQ} {p q : QQ} : q ∈ need1 V nd p ↔ q ∈ V ∧ p ∈ nd q := by
  unfold need1
  rw [List.mem_filter, decide_eq_true_eq]
theorem lack_nonneg (nd : QQ → List QQ) (O : List QQ) (p : QQ) : 0 ≤ lack nd O p := Int.natCast_nonneg _
theorem filter_ne_len {l : List QQ} {o : QQ} (hn : l.Nodup) (ho : o ∈ l) : (l.filter fun x => decide (x ≠ o)).length + 1 = l.length := by
  induction l with
  | nil => cases ho
  | cons a l ih =>
    obtain ⟨h1, h2⟩ := List.nodup_cons.mp hn
    rw [List.filter_cons]
    by_cases hao : a = o
    · subst hao
      rw [if_neg (by simp)]
      have e : (l.filter fun x => decide (x ≠ a)) = l := List.filter_eq_self.mpr fun x hx => by
        have : x ≠ a := fun z => h1 (z ▸ hx)
        simpa using this
      rw [e, List.length_cons]
    · rw [if_pos (by simpa using hao), List.length_cons, List.length_cons, ih h2]
      rcases List.mem_cons.mp ho with z | z
      · exact absurd z.symm hao
      · exact z
theorem lack_app {V : List QQ} {nd : QQ → List QQ} (hV : Nd V nd) {O : List QQ} {o p : QQ} (hp : p ∈ V) (ho : o ∉ O) : lack nd (O ++ [o]) p = if o ∈ nd p then lack nd O p - 1 else lack nd O p := by
  have e : ((nd p).filter fun x => decide (x ∉ O ++ [o])) = ((nd p).filter fun x => decide (x ∉ O)).filter fun x => decide (x ≠ o) := by
    rw [List.filter_filter]
    refine List.filter_congr fun x _ => ?_
    by_cases h1 : x = o
    · subst h1
      simp
    · by_cases h2 : x ∈ O <;> simp [h1, h2]
  unfold lack
  rw [e]
  by_cases h : o ∈ nd p
  · rw [if_pos h]
    have hn : ((nd p).filter fun x => decide (x ∉ O)).Nodup := (hV.each p hp).filter _
    have hm : o ∈ (nd p).filter fun x => decide (x ∉ O) := List.mem_filter.mpr ⟨h, decide_eq_true ho⟩
    have := filter_ne_len hn hm
    omega
  · rw [if_neg h]
    have e2 : (((nd p).filter fun x => decide (x ∉ O)).filter fun x => decide (x ≠ o)) = (nd p).filter fun x => decide (x ∉ O) := List.filter_eq_self.mpr fun x hx => by
      have : x ≠ o := fun z => h (z ▸ (List.mem_filter.mp hx).1)
      simpa using this
    rw [e2]
theorem Kn.zero {V : List QQ} {nd : QQ → List QQ} (hV : Nd V nd) : Kn V nd [] (rd0 V nd) (ms0 nd) where
  dup := by
    rw [List.nil_append]
    exact hV.dup.filter _
  sub := fun p hp => (List.mem_filter.mp (show p ∈ rd0 V nd from hp)).1
  ms := fun p _ => by
    unfold ms0 lack
    rw [List.filter_eq_self.mpr fun _ _ => by simp]
  all := fun p hp => by
    have e : lack nd [] p = ms0 nd p := by
      unfold ms0 lack
      rw [List.filter_eq_self.mpr fun _ _ => by simp]
    rw [e, List.nil_append]
    unfold rd0
    rw [List.mem_filter, decide_eq_true_eq]
    exact ⟨fun h => ⟨hp, h⟩, fun h => h.2⟩
  top := fun i p h => by simp at h
theorem Kn.step {V : List QQ} {nd : QQ → List QQ} (hV : Nd V nd) {O R : List QQ} {o : QQ} {ms : QQ → Int} (h : Kn V nd O (R ++ [o]) ms) :
    Kn V nd (O ++ [o]) (less ms R (need1 V nd o)).2 (less ms R (need1 V nd o)).1 := by
  have hN : (need1 V nd o).Nodup := hV.dup.filter _
  obtain ⟨e1, e2⟩ := less_eq (need1 V nd o) ms R hN
  have ho : o ∈ V := h.sub o (by simp)
  have hd := h.dup
  rw [← List.append_assoc, List.nodup_append] at hd
  obtain ⟨d1, _, d3⟩ := hd
  have oO : o ∉ O := fun z => d3 o (List.mem_append_left _ z) o (List.mem_singleton.mpr rfl) rfl
  have oR : o ∉ R := fun z => d3 o (List.mem_append_right _ z) o (List.mem_singleton.mpr rfl) rfl
  have la := fun p (hp : p ∈ V) => lack_app hV hp oO
  -- those newly ready lacked one, and are not there yet
  have new : ∀ q, q ∈ (need1 V nd o).filter (fun q => decide (ms q - 1 = 0)) ↔ q ∈ V ∧ o ∈ nd q ∧ lack nd O q = 1 := fun q => by
    rw [List.mem_filter, mem_need1, decide_eq_true_eq]
    constructor
    · rintro ⟨⟨a, b⟩, c⟩
      rw [h.ms q a] at c
      exact ⟨a, b, by omega⟩
    · rintro ⟨a, b, c⟩
      refine ⟨⟨a, b⟩, ?_⟩
      rw [h.ms q a]
      omega
  have notin : ∀ q, q ∈ V → lack nd O q ≠ 0 → q ∉ O ++ (R ++ [o]) := fun q hq z m => z ((h.all q hq).mpr m)
  have oz : lack nd O o = 0 := (h.all o ho).mpr (by simp)
  have allO : ∀ x ∈ nd o, x ∈ O := fun x hx => Classical.byContradiction fun z => by
    unfold lack at oz
    have : x ∈ (nd o).filter fun x => decide (x ∉ O) := List.mem_filter.mpr ⟨hx, decide_eq_true z⟩
    have := List.length_pos_of_mem this
    omega
  rw [e1, e2]
  refine ⟨?_, ?_, ?_, ?_, ?_⟩
  · rw [← List.append_assoc, List.nodup_append]
    refine ⟨?_, hN.filter _, ?_⟩
    · rw [List.nodup_append] at d1 ⊢
      obtain ⟨c1, c2, c3⟩ := d1
      refine ⟨?_, c2, ?_⟩
      · rw [List.nodup_append]
        exact ⟨c1, List.nodup_cons.mpr ⟨by simp, List.nodup_nil⟩, fun a ha b hb => by rw [List.mem_singleton.mp hb]; exact fun z => oO (z ▸ ha)⟩
      · intro a ha b hb
        rcases List.mem_append.mp ha with ha | ha
        · exact c3 a ha b hb
        · rw [List.mem_singleton.mp ha]
          exact fun z => oR (z ▸ hb)
    · intro a ha b hb z
      subst z
      obtain ⟨b1, b2, b3⟩ := (new a).mp hb
      refine notin a b1 (by omega) ?_
      rcases List.mem_append.mp ha with ha | ha
      · rcases List.mem_append.mp ha with ha | ha
        · exact List.mem_append_left _ ha
        · exact List.mem_append_right _ (List.mem_append_right _ ha)
      · exact List.mem_append_right _ (List.mem_append_left _ ha)
  · intro p hp
    rcases List.mem_append.mp hp with hp | hp
    · rcases List.mem_append.mp hp with hp | hp
      · exact h.sub p (List.mem_append_left _ hp)
      · rw [List.mem_singleton.mp hp]; exact ho
    · rcases List.mem_append.mp hp with hp | hp
      · exact h.sub p (by simp [hp])
      · exact ((new p).mp hp).1
  · intro p hp
    rw [la p hp]
    have m := h.ms p hp
    have i : p ∈ need1 V nd o ↔ o ∈ nd p := ⟨fun z => (mem_need1.mp z).2, fun z => mem_need1.mpr ⟨hp, z⟩⟩
    show (if p ∈ need1 V nd o then ms p - 1 else ms p) = _
    by_cases z : o ∈ nd p
    · rw [if_pos (i.mpr z), if_pos z, m]
    · rw [if_neg fun y => z (i.mp y), if_neg z, m]
  · intro p hp
    rw [la p hp]
    have q := h.all p hp
    have nn := lack_nonneg nd O p
    have nw := new p
    simp only [List.mem_append, List.mem_singleton] at q ⊢
    rw [nw]
    by_cases z : o ∈ nd p
    · rw [if_pos z]
      constructor
      · intro e
        exact .inr (.inr ⟨hp, z, by omega⟩)
      · have one : 0 < lack nd O p := by
          have : o ∈ (nd p).filter fun x => decide (x ∉ O) := List.mem_filter.mpr ⟨z, decide_eq_true oO⟩
          have := List.length_pos_of_mem this
          unfold lack
          omega
        rintro ((m | m) | m | m)
        · have := q.mpr (.inl m); omega
        · have := q.mpr (.inr (.inr m)); omega
        · have := q.mpr (.inr (.inl m)); omega
        · omega
    · rw [if_neg z, q]
      constructor
      · rintro (m | m | m)
        · exact .inl (.inl m)
        · exact .inr (.inl m)
        · exact .inl (.inr m)
      · rintro ((m | m) | m | m)
        · exact .inl m
        · exact .inr (.inr m)
        · exact .inr (.inl m)
        · exact absurd m.2.1 z
  · intro i p hp x hx
    rw [List.getElem?_append] at hp
    split at hp
    · rename_i hi
      have := h.top i p hp x hx
      rw [List.take_append_of_le_length (by omega)]
      exact this
    · rename_i hi
      have hi2 : i = O.length := by
        have := (List.getElem?_eq_some_iff.mp hp).1
        simp at this
        omega
      subst hi2
      simp at hp
      subst hp
      rw [List.take_left']
      · exact allO x hx
      · rfl
theorem kLoop_ok {V : List QQ} {nd : QQ → List QQ} (hV : Nd V nd) : ∀ (n : Nat) (O R : List QQ) (ms : QQ → Int), Kn V nd O R ms → V.length < n + O.length → ∃ ms', Kn V nd (kLoop V nd n O R ms) [] ms'
  | 0, O, R, ms, h, hn => by
    have h1 := (List.nodup_append.mp h.dup).1
    have := Pu.len_sub h1 fun x hx => h.sub x (List.mem_append_left _ hx)
    omega
  | n + 1, O, R, ms, h, hn => by
    unfold kLoop
    rcases List.eq_nil_or_concat R with rfl | ⟨R', o, rfl⟩
    · exact ⟨ms, h⟩
    · rw [List.concat_eq_append] at h ⊢
      rw [List.getLast?_concat, List.dropLast_concat]
      exact kLoop_ok hV n _ _ _ (h.step hV) (by rw [List.length_append]; simp; omega)
/-- what the order is worth -/
structure Kz (V : List QQ) (nd : QQ → List QQ) (O : List QQ) : Prop where
  dup : O.Nodup
  sub : ∀ p ∈ O, p ∈ V
  top : ∀ (i : Nat) (p : QQ), O[i]? = some p → ∀ x ∈ nd p, x ∈ O.take i
  fr : ∀ p, p ∈ O ↔ p ∈ V ∧ Fr nd p
theorem kahn_ok {V : List QQ} {nd : QQ → List QQ} (hV : Nd V nd) : Kz V nd (kahn V nd) := by
  obtain ⟨ms, h⟩ := kLoop_ok hV (V.length + 1) [] (rd0 V nd) (ms0 nd) (Kn.zero hV) (by simp)
  show Kz V nd (kLoop V nd (V.length + 1) [] (rd0 V nd) (ms0 nd))
  generalize kLoop V nd (V.length + 1) [] (rd0 V nd) (ms0 nd) = O at h
  have hd := h.dup
  have hs := h.sub
  have ha := h.all
  rw [List.append_nil] at hd hs
  have top : ∀ n, ∀ (i : Nat) (p : QQ), i ≤ n → O[i]? = some p → Fr nd p := by
    intro n
    induction n with
    | zero =>
      intro i p hi hp
      refine .mk fun x hx => ?_
      have := h.top i p hp x hx
      have e : i = 0 := by omega
      subst e
      simp at this
    | succ n ih =>
      intro i p hi hp
      refine .mk fun x hx => ?_
      have hx := h.top i p hp x hx
      obtain ⟨k, hk, e⟩ := List.mem_take_iff_getElem.mp hx
      refine ih k x (by omega) ?_
      rw [List.getElem?_eq_getElem (by omega), e]
  have key : ∀ p, Fr nd p → p ∈ V → p ∈ O := fun p hf => by
    induction hf with
    | @mk p hx ih =>
      intro hp
      have z : lack nd O p = 0 := by
        unfold lack
        have e : ((nd p).filter fun x => decide (x ∉ O)) = [] := List.filter_eq_nil_iff.mpr fun x hx => by
          have := ih x hx (hV.sub p hp x hx)
          simpa using this
        rw [e]
        rfl
      have := (ha p hp).mp z
      rwa [List.append_nil] at this
  refine ⟨hd, hs, h.top, fun p => ⟨fun hp => ⟨hs p hp, ?_⟩, fun ⟨hp, hf⟩ => key p hf hp⟩⟩
  obtain ⟨i, hi, e⟩ := List.getElem_of_mem hp
  exact top i i p (Nat.le_refl _) (by rw [List.getElem?_eq_getElem hi, e])
end Pq

/-! second make: comprehensions that leave things in the store; dicts under a lock; entries changed in place -/
namespace Pv
open PySem PySem.Spec L2
open Evl (Ex sz_of sz_lt)
open PyProof.Rows (envOfC)
section
variable {K : PySem.W.Frag} {es : Es} {st st1 st2 st3 : List Ob} {ta tb te tk tv : TE} {tt : TT} {x y : It} {xs ys : List It} {r : Rv} {W : WE} {P : Post} {m : List (P2 × It)}
/-- the entries of the first n, their values by number -/
def entN {α : Type} (f : α → P2) (x : Nat → It) (as : List α) (n : Nat) : List (P2 × It) := (as.take n).zipIdx.map fun a => (f a.1, x a.2)
theorem entN_keys {α : Type} (f : α → P2) (x : Nat → It) (as : List α) (n : Nat) : (entN f x as n).map (·.1) = (as.take n).map f := by
  unfold entN
  rw [List.map_map]
  have e : ((fun a : P2 × It => a.1) ∘ fun a : α × Nat => (f a.1, x a.2)) = f ∘ Prod.fst := rfl
  rw [e, ← List.map_map, List.zipIdx_map_fst]
theorem entN_succ {α : Type} {f : α → P2} {x : Nat → It} {as : List α} {i : Nat} {a : α} (h : as[i]? = some a) (nd : (as.map f).Nodup) : entN f x as (i + 1) = putM (entN f x as i) (f a) (x i) := by
  have hi := (List.getElem?_eq_some_iff.mp h).1
  have hn : f a ∉ (entN f x as i).map (·.1) := by
    rw [entN_keys]
    intro z
    have e : (as.take (i + 1)).map f = (as.take i).map f ++ [f a] := by
      rw [List.take_add_one, h, List.map_append]
      rfl
    have nd' : ((as.take (i + 1)).map f).Nodup := nd.sublist ((List.take_sublist _ _).map f)
    rw [e, List.nodup_append] at nd'
    exact nd'.2.2 _ z _ (List.mem_singleton.mpr rfl) rfl
  rw [Pq.putM_new hn]
  unfold entN
  rw [List.take_add_one, h, List.zipIdx_append, List.map_append]
  congr 1
  show [(f a, x (0 + (as.take i).length))] = [(f a, x i)]
  rw [Nat.zero_add, List.length_take, Nat.min_eq_left (Nat.le_of_lt hi)]
/-- a dict comprehension, each value of which may leave something in the store -/
theorem ev_dcS {α : Type} {wi : TI} {j : Nat} {vs : List Nat} {ok : List Ob → Prop} {as : List α} {enc : α → It} (f : α → P2) (sf : Nat → List Ob) (x : Nat → It) (h : EvI K wi es st (sf 0) ok (as.map enc)) (hok : ∀ i, i ≤ as.length → ok (sf i)) (nd : (as.map f).Nodup) (hz : as.length ≤ 50000) (hj : ∀ σ x, wipe ((wipe σ vs).set j x) vs = wipe σ vs)
    (hk : ∀ i a, as[i]? = some a → Ev K tk ((wipeE es vs).set j (.it (enc a))) (sf i) (sf i) (.dat (pD (f a)))) (he : ∀ i a, as[i]? = some a → Ev K tv ((wipeE es vs).set j (.it (enc a))) (sf i) (sf (i + 1)) (.it (x i))) : Ev K (Pm.tDcT wi (gName j) tYes tk tv vs) es st (sf as.length) (.fr (.dic (entN f x as as.length))) := .mk fun {G H ρ σ} S T {Q} q =>
  h.run S T fun J G1 H1 ρ1 m1 S1 hJ D hD => by
    have la : (as.map enc).length = as.length := List.length_map _
    obtain ⟨S1', m1'⟩ := S1.priv (o := .dT []) True.intro hD
    have nD : D ∉ ρ1 := fun z => by
      obtain ⟨_, u, hu⟩ := S1.pr D z
      rw [hD] at hu
      cases hu
    refine ⟨fun i n H' => n = as.length - i ∧ i ≤ as.length ∧ BldD K G1 H1 ρ1 D (sf i) H' (entN f x as i), ⟨as.length, by simp, Nat.zero_le _, G1, ρ1, m1', S1', fresh_back S1.ex hD, nD, [], upd_same, .nil⟩, ?_⟩
    rintro i n H' ⟨rfl, hi, G', ρ', mm, S', gD, nD', kvs, ha, hda⟩
    by_cases hlt : i < as.length
    · refine .inr ⟨hJ.go xNo i _ _ _ (sf i) old_no mm.mw S' (hok i hi) (by rw [la]; exact hlt), fun H' => i + 1 ≤ as.length ∧ BldD K G1 H1 ρ1 D (sf (i + 1)) H' (entN f x as (i + 1)), fun H3 w => ⟨as.length - (i + 1), by omega, rfl, w⟩, fun v H3 y => ?_⟩
      obtain ⟨rfl, x', hxi, hx⟩ := hJ.yld xNo i v _ _ _ _ (sf i) old_no mm.mw S' (hok i hi) (by rw [la]; exact hlt) y
      rw [List.getElem?_map] at hxi
      obtain ⟨a, hai, rfl⟩ := Option.map_eq_some_iff.mp hxi
      have T' := ((T.mv (m1.trans mm)).wipe vs).put j (v := some v) (e := .it (enc a)) ⟨v, rfl, hx⟩
      have few : kvs.length ≤ i := by
        rw [dm_len hda]
        unfold entN
        rw [List.length_map, List.length_zipIdx, List.length_take]
        exact Nat.min_le_left _ _
      refine ⟨hj σ (some v), ?_⟩
      rw [Pu.tYes_at, if_pos rfl]
      refine (hk i a hai).run S' T' fun u G4 H4 ρ4 m4 S4 hu => ?_
      obtain ⟨a4, g4, n4⟩ := m4.fm D _ ha gD nD'
      refine (he i a hai).run S4 (T'.mv m4) fun z G5 H5 ρ5 m5 S5 hz' => ?_
      obtain ⟨a5, g5, n5⟩ := m5.fm D _ a4 g4 n4
      obtain ⟨b, rfl, hb⟩ := key_at (Dq.up (show Dq K G4 u (pD (f a)) from hu) m5.ex)
      refine ⟨b, pk (f a), kvs, rfl, S5.ex _ _ hb, a5, sz_lt (by omega), hlt, G5, ρ5, ((mm.trans m4).trans m5).poke hD a5, S5.poke g5 n5 a5 (fun q z => nomatch z) True.intro, g5, n5, _, upd_same, ?_⟩
      rw [entN_succ hai nd]
      exact put_at (dm_up (m4.ex.trans m5.ex) (m4.pre.trans m5.pre) hda) hz'
    · have e : i = as.length := by omega
      subst e
      exact .inl ⟨by rw [← la]; exact hJ.stop xNo _ _ _ _ old_no mm.mw S' (hok _ (Nat.le_refl _)), q _ G' H' ρ' (m1.trans mm) S' ⟨D, rfl, m1.al D hD, gD, nD', ⟨_, ha⟩, (fun q z => by rw [ha] at z; cases z), kvs, ha, hda⟩⟩
/-- an expression within which a dict is walked -/
theorem ev_lock {k : Nat} (hk : st[k]? = some (.dic m)) (h : ∀ od kvs, ∃ s2, Ev K te es (st.set k (.dicF od kvs m)) s2 r ∧ s2[k]? = some (.dicF od kvs m) ∧ s2.set k (.dic m) = st2) : Ev K (tLockE te) es st st2 r := .mk fun {G H ρ σ} S T {Q} q => by
  have hlen : k < ρ.length := by
    rw [S.len]
    exact (List.getElem?_eq_some_iff.mp hk).1
  have hr : ρ[k]? = some ρ[k] := List.getElem?_eq_getElem hlen
  generalize ρ[k] = p at hr
  obtain ⟨kvs, hp, hm⟩ := S.ob k _ p hk hr
  refine ⟨p, .dT kvs, hp, True.intro, fun od => ?_⟩
  obtain ⟨S1, m1⟩ := S.set (u := .frz od (.dT kvs)) (o := .dicF od kvs m) hr True.intro (fun q z => by rw [hp] at z; cases z) ⟨upd_same, hm⟩
  obtain ⟨s2, h1, h2, h3⟩ := h od kvs
  refine h1.run S1 (T.mv m1) fun v G' H' ρ' mm S' hv => ?_
  have hr' := pre_get mm.pre hr
  obtain ⟨hp', hm'⟩ := S'.ob k _ p h2 hr'
  obtain ⟨S2, m2⟩ := S'.set (u := .dT kvs) (o := .dic m) hr' True.intro (fun q z => by rw [hp'] at z; cases z) ⟨kvs, upd_same, hm'⟩
  rw [h3] at S2
  refine ⟨hp', q v G' _ ρ' ((m1.trans mm).trans m2) S2 ?_⟩
  cases r with
  | it x => exact hv
  | fr o =>
    obtain ⟨a, e, h0, ga, na, hu, nw, hb⟩ := hv
    have ne : a ≠ p := fun z => na (z ▸ List.mem_of_getElem? hr')
    refine ⟨a, e, ?_, ga, na, ?_, ?_, ?_⟩
    · rw [upd_ne ne] at h0
      exact h0
    · rw [upd_ne ne]
      exact hu
    · rw [upd_ne ne]
      exact nw
    · refine ObAt.up (Ex.refl _) (List.prefix_refl _) (upd_ne ne) (fun dx z1 z2 z3 => ⟨upd_ne fun z4 => ?_, z2, z3⟩) hb
      rw [z4, hp'] at z1
      cases z1
/-- d.get(k) -/
theorem ev_dget1 {k : Nat} {p : P2} (ha : Ev K ta es st st1 (.ob k)) (hb : Ev K tb es st1 st2 (.dat (.tuple [.int p.1, .int p.2]))) (hk1 : ∃ m', st1[k]? = some (.dic m')) (hk : st2[k]? = some (.dic m)) : Ev K (tDGet1 ta tb) es st st2 (.it ((m.lookup p).getD (.dat .none))) := .mk fun {G H ρ σ} S T {Q} q =>
  ha.run S T fun u G1 H1 ρ1 m1 S1 hu => by
    obtain ⟨a, rfl, hr⟩ := hu
    obtain ⟨m', hk1⟩ := hk1
    obtain ⟨kvs', hp', _⟩ := S1.ob k _ a hk1 hr
    refine ⟨a, rfl, .inr ⟨_, .inl hp'⟩, hb.run S1 (T.mv m1) fun v G2 H2 ρ2 m2 S2 hv => ?_⟩
    obtain ⟨kvs, hp, hx⟩ := S2.ob k _ a hk (pre_get m2.pre hr)
    obtain ⟨b, rfl, hb⟩ := key_at hv
    refine ⟨_, DGet.t hp (S2.ex _ _ hb), ?_⟩
    rcases val_at hx p with ⟨z1, z2⟩ | ⟨y, w, h1, h2, h3⟩
    · rw [z2]
      exact q _ G2 H2 ρ2 (m1.trans m2) S2 (by rw [z1]; exact Dq.non)
    · rw [h2]
      exact q _ G2 H2 ρ2 (m1.trans m2) S2 (by rw [h1]; exact h3)
/-- d[k] -= e -/
theorem w_dsub {k : Nat} {p : P2} {i e : Int} (h0 : Ev K ta es st st1 (.ob k)) (h : Ev K tb es st1 st2 (.dat (.tuple [.int p.1, .int p.2]))) (hk : st2[k]? = some (.dic m)) (hl : m.lookup p = some (.dat (.int i))) (hv : Ev K te es st2 st2 (.dat (.int e))) (hz : m.length < 100000) (hn : P.nx es (st2.set k (.dic (putM m p (.dat (.int (i - e))))))) : Ws K W (sDAug ta tb te rSub) es st P := .mk fun {G H ρ σ D} S T kk =>
  h0.run S T fun u G1 H1 ρ1 m1 S1 hu => h.run S1 (T.mv m1) fun y G2 H2 ρ2 m2 S2 hy => by
    obtain ⟨a, rfl, hr⟩ := hu
    have hr2 := pre_get m2.pre hr
    obtain ⟨kvs, hp, hkv⟩ := S2.ob k _ a hk hr2
    obtain ⟨b, rfl, hb⟩ := key_at hy
    rcases val_at hkv p with ⟨z, _⟩ | ⟨y', w, h1, h2, h3⟩
    · rw [z] at hl
      cases hl
    rw [h1] at hl
    cases hl
    refine ⟨a, w, rfl, h2 ▸ DGet.t hp (S2.ex _ _ hb), hv.run S2 ((T.mv m1).mv m2) fun y2 G3 H3 ρ3 m3 S3 hy2 => ⟨i, e, dq_int h3, dq_int hy2, ?_⟩⟩
    have hr3 := pre_get m3.pre hr2
    obtain ⟨kvs3, hp3, hkv3⟩ := S3.ob k _ a hk hr3
    refine ⟨_, DPut.t hp3 (S3.ex _ _ (m3.ex _ _ hb)) (sz_lt (by rw [dm_len hkv3]; exact hz)), ?_⟩
    obtain ⟨S4, m4⟩ := S3.set (u := .dT (putK kvs3 (pk p) (.int (i - e)))) (o := .dic (putM m p (.dat (.int (i - e))))) hr3 True.intro (fun q z => by rw [hp3] at z; cases z) ⟨_, upd_same, put_at hkv3 (Dq.int _)⟩
    exact kk.nx _ _ _ _ _ _ hn (((m1.trans m2).trans m3).trans m4) S4 ((((T.mv m1).mv m2).mv m3).mv m4)
end
end Pv

/-! rules of the machine: fields and lists within comprehensions; d.pop(k) of a place that is there -/
namespace Pm
open PySem PySem.Spec L2
open PyProof.Rows
theorem pe_fldK {X : Cx} {K : PySem.W.Frag} {e : Expr} {f : Str} {pos : Pos} {ta : TE} (h : X.K = K) (he : PE X e ta) (hb : attributeBase e f X.env (eval e X.env) = eval e X.env) : PE X (e.Attribute f pos) (tFld K ta f) := h ▸ pe_fld he hb
def rListOf (K : PySem.W.Frag) : List V → Hp → VK → Prop := fun xs H Q => ∃ p ys, xs = [V.ref p] ∧ (SqL K H p ys ∨ SqT K H p ys) ∧ ∀ (l : Addr), H l = none → Q (V.ref l) (upd H l (HO.lst ys))
theorem call_list_ofK {X : Cx} {K : PySem.W.Frag} (h : X.K = K) : CallR X (Value.type "list") (rListOf K) := h ▸ call_list_of
theorem units65 {k : Nat} {A : Around} (r : Room k A) : A.units + 65 < cLine := by
  have := r.un
  omega
/-- what is taken out by its key -/
def rTakeT : V → List V → Hp → VK → Prop := fun x xs H Q => ∃ (a b : Addr) (kvs : List (List L2.Key × V)) (k : List L2.Key) (v : V), x = .ref a ∧ xs = [.ref b] ∧ H a = some (.dT kvs) ∧ H b = some (.tup (k.map kV)) ∧ valV kvs k = some v ∧ Q v (upd H a (.dT (dropK kvs k)))
theorem mt_popT1 {X : Cx} (hu : X.A.units + 1 < cLine) : MtR X "dict.pop" rTakeT := by
  intro pins s σ H x xs v us Q I rx rxs ⟨a, b, kvs, k, v0, ex, exs, ha, hb, ev, q⟩
  subst ex
  subst exs
  obtain rfl : v = Value.ref a := rx
  cases rxs with
  | cons rb rt =>
    cases rt
    cases (show _ = Value.ref b from rb)
    obtain ⟨z, hd, ys, rel, dd⟩ := dt_of I.hok ha
    have r := rel.val k
    rw [ev] at r
    cases hp : PySem.atKey ys k with
    | none =>
      rw [hp] at r
      exact (show False from r).elim
    | some p =>
      rw [hp] at r
      refine PySem.call_pop_heap (hsz := by rw [← Paired.length rel]; exact z) (knd := tupleKind (mixKind X.prog X.w)) (.inl rfl) (PySem.F.args_dict_pop_2 _ _) (tupleKind_room_in1 hu) (key_of I.hok hb) hd dd hp fun h' dd' hs => ?_
      obtain ⟨o, es, ep, g1, g2, g3, g4, _, g5⟩ := dd'
      refine ⟨v0, _, d_write I (by rw [ha]; exact True.intro) hs ⟨o, g1⟩ ?_, r, q⟩
      exact ⟨Nat.le_trans (dropK_le kvs k) z, hd, _, (L2.DX.KT_drop k rel).keeps (fun c cs ec => (by rw [upd_ne (ne_of ec ha (fun z => nomatch z))]; exact ec)), o, es, ep, g1, g2, g3, g4, g5⟩
end Pm

/-! tables of rules; lists of a store that are told by places -/
namespace Pq
open PySem PySem.Spec L2 Pr Pl Pv
def pls (ps : List QQ) : List Pv.It := ps.map fun p => .dat (Pl.pD p)
theorem pls_dats (ps : List QQ) : pls ps = (plD ps).map Pv.It.dat := by
  unfold pls plD
  rw [List.map_map]
  rfl
theorem pls_snoc (l : List QQ) (q : QQ) : pls (l ++ [q]) = pls l ++ [.dat (Pl.pD q)] := List.map_append
theorem pls_len (l : List QQ) : (pls l).length = l.length := List.length_map _
/-- a sheet's rules, as they are told -/
structure Tb (B : Bx) (f : QQ → Rl) (ms : List (QQ × Pv.It)) : Prop where
  look : ∀ p : QQ, B.has p.1 p.2 → ms.lookup p = some (.dat (f p).d)
  inb : ∀ p : QQ, B.has p.1 p.2 → inb B (f p)
  size : ∀ p : QQ, B.has p.1 p.2 → (f p).size ≤ 100
  dep : ∀ p : QQ, B.has p.1 p.2 → dp (f p) ≤ 8
def vB (B : Bx) : List QQ := areaP 0 0 ((B.h : Int) - 1) ((B.w : Int) - 1)
theorem vB_mem {B : Bx} (z : Sz B) {p : QQ} : p ∈ vB B ↔ B.has p.1 p.2 := area_has z
theorem vB_dup (B : Bx) : (vB B).Nodup := area_nodup _ _ _ _
theorem vB_len {B : Bx} (z : Sz B) : (vB B).length ≤ 144 := areaN_le z
def ndB (B : Bx) (f : QQ → Rl) (p : QQ) : List QQ := need B (f p)
theorem need_dup {B : Bx} (ok : B.Ok) (r : Rl) : (need B r).Nodup := by
  have h := need_sorted ok r
  rw [List.pairwise_map] at h
  exact h.imp fun h e => by rw [e] at h; exact absurd h (Int.lt_irrefl _)
theorem need_iff {B : Bx} (ok : B.Ok) {r : Rl} (h : inb B r) {p : QQ} : p ∈ need B r ↔ p ∈ ndL r := by
  rw [ndL_iff]
  unfold need
  rw [List.mem_filter, names_iff]
  exact ⟨fun z => z.2, fun z => ⟨(Bx.mem ok.hw).mpr (let ⟨o, ho, hq⟩ := z; named_in (inb_outer h o ho) hq), z⟩⟩
theorem ndB_ok {B : Bx} (z : Sz B) (ok : B.Ok) (f : QQ → Rl) : Nd (vB B) (ndB B f) where
  dup := vB_dup B
  each := fun p _ => need_dup ok _
  sub := fun p _ x hx => by
    unfold ndB need at hx
    exact (vB_mem z).mpr ((Bx.mem ok.hw).mp (List.mem_filter.mp hx).1)
theorem nd_len {V : List QQ} {nd : QQ → List QQ} (h : Nd V nd) {p : QQ} (hp : p ∈ V) : (nd p).length ≤ V.length := Pu.len_sub (h.each p hp) (h.sub p hp)
/-- such a dict of lists, as data -/
def mNd (V : List QQ) (nd : QQ → List QQ) : List (QQ × Pv.It) := V.map fun p => (p, .dat (.list (plD (nd p))))
theorem mNd_look {V : List QQ} {nd : QQ → List QQ} (hV : V.Nodup) {p : QQ} (hp : p ∈ V) : (mNd V nd).lookup p = some (.dat (.list (plD (nd p)))) :=
  lookup_map (f := fun p : QQ => p) (g := fun p => Pv.It.dat (.list (plD (nd p)))) (by rw [List.map_id']; exact hV) hp
theorem mNd_keys (V : List QQ) (nd : QQ → List QQ) : (mNd V nd).map (fun b => Pv.It.dat (Pv.pD b.1)) = V.map fun p => Pv.It.dat (Pl.pD p) := by
  unfold mNd
  rw [List.map_map]
  rfl
/-! a piece of a store, told by places -/
theorem map_set {α : Type} {V : List QQ} (hV : V.Nodup) (F : QQ → α) {i : Nat} {o : QQ} (h : V[i]? = some o) (x : α) : (V.map F).set i x = V.map fun p => if p = o then x else F p := by
  refine List.ext_getElem? fun k => ?_
  rw [List.getElem?_set, List.length_map, List.getElem?_map, List.getElem?_map]
  have hi := (List.getElem?_eq_some_iff.mp h).1
  by_cases hk : i = k
  · subst hk
    rw [if_pos rfl, if_pos hi, h]
    show some x = some (if o = o then x else F o)
    rw [if_pos rfl]
  · rw [if_neg hk]
    cases hq : V[k]? with
    | none => rfl
    | some q =>
      have hne : q ≠ o := fun e => by
        have hk2 := (List.getElem?_eq_some_iff.mp hq).1
        exact hk ((List.getElem?_inj hi hV).mp (by rw [h, hq, e]))
      show some (F q) = some (if q = o then x else F q)
      rw [if_neg hne]
theorem get_mid {α : Type} {a m b : List α} {i : Nat} (h : i < m.length) : (a ++ (m ++ b))[a.length + i]? = m[i]? := by
  rw [List.getElem?_append_right (Nat.le_add_right _ _), Nat.add_sub_cancel_left, List.getElem?_append_left h]
theorem set_mid {α : Type} {a m b : List α} {i : Nat} {x : α} (h : i < m.length) : (a ++ (m ++ b)).set (a.length + i) x = a ++ (m.set i x ++ b) := by
  rw [List.set_append_right _ _ (Nat.le_add_right _ _), Nat.add_sub_cancel_left, List.set_append_left _ _ h]
theorem get_end {α : Type} {a m b : List α} {i : Nat} : (a ++ (m ++ b))[a.length + (m.length + i)]? = b[i]? := by
  rw [List.getElem?_append_right (Nat.le_add_right _ _), Nat.add_sub_cancel_left, List.getElem?_append_right (Nat.le_add_right _ _), Nat.add_sub_cancel_left]
theorem set_end {α : Type} {a m b : List α} {i : Nat} {x : α} : (a ++ (m ++ b)).set (a.length + (m.length + i)) x = a ++ (m ++ b.set i x) := by
  rw [List.set_append_right _ _ (Nat.le_add_right _ _), Nat.add_sub_cancel_left, List.set_append_right _ _ (Nat.le_add_right _ _), Nat.add_sub_cancel_left]
theorem get_front {α : Type} {a b : List α} {i : Nat} (h : i < a.length) : (a ++ b)[i]? = a[i]? := List.getElem?_append_left h
theorem set_front {α : Type} {a b : List α} {i : Nat} {x : α} (h : i < a.length) : (a ++ b).set i x = a.set i x ++ b := List.set_append_left _ _ h
/-- places numbered on from n -/
def dmN (V : List QQ) (n : Nat) : List (QQ × Pv.It) := entN (fun p : QQ => p) (fun i => .ob (n + i)) V V.length
theorem dmN_look {V : List QQ} (hV : V.Nodup) {n i : Nat} {p : QQ} (h : V[i]? = some p) : (dmN V n).lookup p = some (.ob (n + i)) := by
  unfold dmN entN
  rw [List.take_length]
  have gen : ∀ (l : List (QQ × Nat)) (q : QQ × Nat), (l.map (·.1)).Nodup → q ∈ l → (l.map fun a => (a.1, Pv.It.ob (n + a.2))).lookup q.1 = some (.ob (n + q.2)) := by
    intro l
    induction l with
    | nil => exact fun _ _ h => nomatch h
    | cons a l ih =>
      intro q hn hq
      rw [List.map_cons, List.nodup_cons] at hn
      rw [List.map_cons, List.lookup_cons]
      rcases List.mem_cons.mp hq with rfl | hq
      · rw [beq_self_eq_true]
      · have ne : q.1 ≠ a.1 := fun e => hn.1 (e ▸ List.mem_map_of_mem hq)
        rw [beq_eq_false_iff_ne.mpr ne]
        exact ih q hn.2 hq
  refine gen V.zipIdx (p, i) (by rw [List.zipIdx_map_fst]; exact hV) ?_
  rw [List.mem_zipIdx_iff_getElem?]
  exact h
theorem dmN_len (V : List QQ) (n : Nat) : (dmN V n).length = V.length := by
  unfold dmN entN
  rw [List.length_map, List.length_zipIdx, List.length_take, Nat.min_self]
theorem dmN_ok {V : List QQ} {n k : Nat} (h : n + V.length ≤ k) : okOb k (.dic (dmN V n)) = true := List.all_eq_true.mpr fun b hb => by
  unfold dmN entN at hb
  obtain ⟨a, ha, rfl⟩ := List.mem_map.mp hb
  rw [List.take_length] at ha
  have hi := (List.getElem?_eq_some_iff.mp (List.mem_zipIdx_iff_getElem?.mp ha)).1
  exact decide_eq_true (show n + a.2 < k by omega)
end Pq

/-! what all places tell -/
namespace Pq
open PySem PySem.Spec L2 Pr Pl Pv
theorem tell_congr {kn kn' : QQ → Int} : ∀ (r : Rl), (∀ p ∈ ndL r, kn p = kn' p) → tell kn r = tell kn' r := by
  have area : ∀ (p q : Rf), (∀ x ∈ areaR p q, kn x = kn' x) → (areaR p q).map (kM kn) = (areaR p q).map (kM kn') := fun p q h => List.map_congr_left fun x hx => by
    unfold kM
    rw [h x hx]
  intro r
  induction r with
  | num n => exact fun _ => rfl
  | cell p =>
    intro h
    have := h (p.r, p.c) (List.mem_singleton.mpr rfl)
    show kM kn (p.r, p.c) % MM = kM kn' (p.r, p.c) % MM
    unfold kM
    rw [this]
  | add a b h1 h2 =>
    intro h
    show (tell kn a + tell kn b) % MM = (tell kn' a + tell kn' b) % MM
    rw [h1 fun p hp => h p (List.mem_append_left _ hp), h2 fun p hp => h p (List.mem_append_right _ hp)]
  | sub a b h1 h2 =>
    intro h
    show (tell kn a - tell kn b) % MM = (tell kn' a - tell kn' b) % MM
    rw [h1 fun p hp => h p (List.mem_append_left _ hp), h2 fun p hp => h p (List.mem_append_right _ hp)]
  | mul a b h1 h2 =>
    intro h
    show (tell kn a * tell kn b) % MM = (tell kn' a * tell kn' b) % MM
    rw [h1 fun p hp => h p (List.mem_append_left _ hp), h2 fun p hp => h p (List.mem_append_right _ hp)]
  | pick a b c h1 h2 h3 =>
    intro h
    show (if tell kn a = 0 then tell kn c else tell kn b) % MM = (if tell kn' a = 0 then tell kn' c else tell kn' b) % MM
    rw [h1 fun p hp => h p (List.mem_append_left _ hp), h2 fun p hp => h p (List.mem_append_right _ (List.mem_append_left _ hp)), h3 fun p hp => h p (List.mem_append_right _ (List.mem_append_right _ hp))]
  | sum p q =>
    intro h
    show ((areaR p q).map (kM kn)).sum % MM = ((areaR p q).map (kM kn')).sum % MM
    rw [area p q h]
  | most p q =>
    intro h
    show mxI ((areaR p q).map (kM kn)) % MM = mxI ((areaR p q).map (kM kn')) % MM
    rw [area p q h]
  | look a p q b h1 h2 =>
    intro h
    show looks (kM kn) p q (tell kn a) (tell kn b) % MM = looks (kM kn') p q (tell kn' a) (tell kn' b) % MM
    rw [h1 fun x hx => h x (List.mem_append_right _ (List.mem_append_left _ hx)), h2 fun x hx => h x (List.mem_append_right _ (List.mem_append_right _ hx))]
    unfold looks
    rw [lookF_congr fun r hr => ?_]
    have one : ∀ c, c ∈ lane (min p.c q.c) (max p.c q.c) → kM kn (r, c) = kM kn' (r, c) := fun c hc => by
      unfold kM
      rw [h (r, c) (List.mem_append_left _ (mem_areaR.mpr ⟨hr, hc⟩))]
    exact ⟨one _ (lane_mem1 (by omega)), one _ (lane_mem2 (by omega))⟩
def upV (kn : QQ → Int) (p : QQ) (n : Int) : QQ → Int := fun q => if q = p then n else kn q
def reck (f : QQ → Rl) : List QQ → (QQ → Int) → (QQ → Int)
  | [], kn => kn
  | p :: O, kn => reck f O (upV kn p (tell kn (f p)))
theorem reck_app (f : QQ → Rl) : ∀ (A B : List QQ) (kn : QQ → Int), reck f (A ++ B) kn = reck f B (reck f A kn)
  | [], _, _ => rfl
  | _ :: A, B, kn => reck_app f A B _
theorem reck_out (f : QQ → Rl) : ∀ (B : List QQ) (kn : QQ → Int) (x : QQ), x ∉ B → reck f B kn x = kn x
  | [], _, _, _ => rfl
  | p :: B, kn, x, h => by
    show reck f B (upV kn p _) x = kn x
    rw [reck_out f B _ x fun z => h (List.mem_cons_of_mem _ z)]
    unfold upV
    rw [if_neg (fun e : x = p => h (by rw [e]; exact List.mem_cons_self))]
/-- the places that come to a value, in order; the values -/
def solO (B : Bx) (f : QQ → Rl) : List QQ := kahn (vB B) (ndB B f)
def solV (B : Bx) (f : QQ → Rl) : QQ → Int := reck f (solO B f) fun _ => 0
theorem solO_ok {B : Bx} (z : Sz B) (ok : B.Ok) (f : QQ → Rl) : Kz (vB B) (ndB B f) (solO B f) := kahn_ok (ndB_ok z ok f)
theorem sol_at {B : Bx} (z : Sz B) (ok : B.Ok) {f : QQ → Rl} {i : Nat} {p : QQ} (hin : ∀ p : QQ, B.has p.1 p.2 → inb B (f p)) (h : (solO B f)[i]? = some p) : (∀ x ∈ ndL (f p), x ∈ (solO B f).take i) ∧ solV B f p = tell (solV B f) (f p) := by
  have kz := solO_ok z ok f
  have hp := (vB_mem z).mp (kz.sub p (List.mem_of_getElem? h))
  have hi := (List.getElem?_eq_some_iff.mp h).1
  have nds : ∀ x ∈ ndL (f p), x ∈ (solO B f).take i := fun x hx => kz.top i p h x ((need_iff ok (hin p hp)).mpr hx)
  refine ⟨nds, ?_⟩
  have split : solO B f = (solO B f).take i ++ p :: (solO B f).drop (i + 1) := by
    conv => lhs; rw [← List.take_append_drop i (solO B f)]
    congr 1
    rw [List.drop_eq_getElem_cons hi]
    congr 1
    have := (List.getElem?_eq_some_iff.mp h).2
    exact this
  have dup := kz.dup
  rw [split, List.nodup_append] at dup
  obtain ⟨_, d2, d3⟩ := dup
  obtain ⟨d4, _⟩ := List.nodup_cons.mp d2
  have val : ∀ x, solV B f x = reck f ((solO B f).drop (i + 1)) (upV (reck f ((solO B f).take i) fun _ => 0) p (tell (reck f ((solO B f).take i) fun _ => 0) (f p))) x := fun x => by
    show reck f (solO B f) _ x = _
    conv => lhs; rw [split, reck_app]
    rfl
  have e1 : solV B f p = tell (reck f ((solO B f).take i) fun _ => 0) (f p) := by
    rw [val, reck_out _ _ _ _ d4]
    unfold upV
    rw [if_pos rfl]
  rw [e1]
  refine tell_congr _ fun x hx => ?_
  have hm := nds x hx
  have n1 : x ≠ p := d3 x hm p List.mem_cons_self
  have n2 : x ∉ (solO B f).drop (i + 1) := fun y => d3 x hm x (List.mem_cons_of_mem _ y) rfl
  rw [val, reck_out _ _ _ _ n2]
  unfold upV
  rw [if_neg n1]
theorem sol_fr {B : Bx} (z : Sz B) (ok : B.Ok) (f : QQ → Rl) (p : QQ) : p ∈ solO B f ↔ B.has p.1 p.2 ∧ Fr (ndB B f) p := by
  rw [(solO_ok z ok f).fr, vB_mem z]
theorem sol_val {B : Bx} (z : Sz B) (ok : B.Ok) {f : QQ → Rl} (hin : ∀ p : QQ, B.has p.1 p.2 → inb B (f p)) {p : QQ} (h : p ∈ solO B f) : solV B f p = tell (solV B f) (f p) := by
  obtain ⟨i, hi, e⟩ := List.getElem_of_mem h
  exact (sol_at z ok hin (by rw [List.getElem?_eq_getElem hi, e])).2
/-- what tells the same by the same needs -/
theorem fr_unique {nd : QQ → List QQ} {kn kn' : QQ → Int} {f f' : QQ → Rl} (C : QQ → Prop) (hC : ∀ p, C p → ∀ x ∈ ndL (f p), C x ∧ x ∈ nd p) (h : ∀ p, C p → Fr nd p → kn p = tell kn (f p)) (h' : ∀ p, C p → Fr nd p → kn' p = tell kn' (f' p)) (hf : ∀ p, C p → f p = f' p) : ∀ p, Fr nd p → C p → kn p = kn' p := fun p hp => by
  induction hp with
  | @mk p hx ih =>
    intro hc
    rw [h p hc (.mk hx), h' p hc (.mk hx), ← hf p hc]
    exact tell_congr _ fun x hx' => ih x (hC p hc x hx').2 (hC p hc x hx').1
def cellD (O : List QQ) (v : QQ → Int) (p : QQ) : PyData := if p ∈ O then .int (v p) else .none
def rowD (B : Bx) (f : QQ → Rl) (r : Int) : PyData := .list ((rng B.w).map fun c => cellD (solO B f) (solV B f) (r, c))
def tabD (B : Bx) (f : QQ → Rl) : List PyData := (rng B.h).map (rowD B f)
theorem w_ok {K : PySem.W.Frag} {W : WE} {t : TS} {es : Es} {st : List Ob} {PP : Post} (h : okSt st = true → Ws K W t es st PP) : Ws K W t es st PP := .mk fun {G H ρ σ D} S T k => (h (okSt_of S)).run S T k
theorem okSt_more {st ex : List Ob} (h : okSt st = true) (he : ∀ o ∈ ex, okOb (st.length + ex.length) o = true) : okSt (st ++ ex) = true := by
  unfold okSt at h ⊢
  rw [List.all_append, List.length_append, Bool.and_eq_true]
  refine ⟨?_, List.all_eq_true.mpr he⟩
  rw [List.all_eq_true] at h ⊢
  exact fun o ho => okOb_le (Nat.le_add_right _ _) (h o ho)
end Pq

/-! rules of the machine: dict(d) of a dict from places -/
namespace Pm
open PySem PySem.Spec L2
open PyProof.Rows
section
variable {prog : Program} {w : World} {κ : Type} [DecidableEq κ] {knd : HeapKind prog w κ} {A : Around} {E : Value → Shared → Prop} {s : Shared}
theorem copied_T {o : Addr} {ys : List (κ × Addr × Value)} {Q : Value → Shared → Prop} (hu : knd.room A.in1.in1) (sys : (o == sysModules) = false) (ho : s.heap.DictOfH knd o ys) (few : ys.length ≤ sizeLine)
    (hty : ∀ x ∈ ys, s.TypeIs (.ref x.2.1) "tuple") (apart : (ys.map fun x => knd.hash x.1).Nodup) (stay : ∀ h', (∀ b q, s.heap.get? b = some q → h'.get? b = some q) → ∀ x ∈ ys, knd.is h' x.1 x.2.1)
    (h : ∀ h', h'.DictOfH knd s.heap.objs.size ys → Heap.SameBut s.heap.objs.size (s.heap.push { cls := .type "dict", data := .dict #[] }) h' → Q (.ref s.heap.objs.size) { s with heap := h' }) : wpAny (model prog w) A (call (.type "dict") [.ref o]) Q E s := by
  have grown : ∀ b q, s.heap.get? b = some q → (s.heap.push { cls := .type "dict", data := .dict #[] }).get? b = some q := fun b q z => Heap.get?_push_of_some _ z
  obtain ⟨od, es, ep, a1, a2, a3, a4, a5, a6⟩ := id ho
  have apartO : s.heap.objs.size ≠ o := fun z => by
    have := Heap.lt_size a1
    rw [z] at this
    exact Nat.lt_irrefl _ this
  have src : (s.heap.push { cls := .type "dict", data := .dict #[] }).DictOfH knd o ys := ⟨od, es, ep, grown _ _ a1, a2, a3, a4, stay _ grown, a6⟩
  have new : (s.heap.push { cls := .type "dict", data := .dict #[] }).DictOfH knd s.heap.objs.size [] := Heap.DictOfH.new s.heap
  refine callType_codes (Q₁ := fun r z => r = Value.ref s.heap.objs.size ∧ z = { s with heap := s.heap.push { cls := .type "dict", data := .dict #[] } }) F.kt_called_dict (F.kt_typeCall_dict_1 _) F.entry_dict_init
    (kt_code_dict_new _ ⟨rfl, rfl⟩) fun r z ⟨er, ez⟩ => ?_
  subst er
  subst ez
  refine ⟨new.typeIs, F.args_dict_init_2 _ _, ?_⟩
  unfold Builtin.«dict.__init__» Builtin.Dict.selfAndRest
  refine wpAny_bind (wpAny_bind (wpAny_notOrdered_dict new.typeIs (wpAny_pure ?_)))
  show wpAny _ A.in1.in1 (Builtin.Dict.updateFrom "dict.__init__" s.heap.objs.size (.ref o) [] .none) _ _ _
  refine updateFrom_dictH (A := A.in1) .none hu apartO sys new src (.inr ⟨fun x hx => ?_, apart⟩) (by rw [List.length_nil, Nat.zero_add]; exact few) fun h' d1 _ same => ?_
  · obtain ⟨q, b1, b2⟩ := hty x hx
    exact ⟨q, grown _ _ b1, b2⟩
  · rw [storedAllH_nil_of_nodup ys a6] at d1
    exact ⟨rfl, h h' d1 same⟩
end
/-- dict(d): no two of its keys hash alike -/
def rDictT (P : Program) (w : World) : List V → Hp → VK → Prop := fun vs H Q => ∃ (a : Addr) (kvs : List (List L2.Key × V)), vs = [.ref a] ∧ Rd H a (.dT kvs) ∧ (kvs.map fun x => tupleKeyHash (mixKind P w) x.1).Nodup ∧ ∀ p, H p = none → Q (.ref p) (upd H p (.dT kvs))
theorem kt_map {γ : Type} {H : Hp} {kvs : List (List L2.Key × V)} {xs : List (List L2.Key × Addr × Value)} (r : KT H kvs xs) (f : List L2.Key → γ) : (xs.map fun x => f x.1) = kvs.map fun x => f x.1 := by
  induction r with
  | nil => rfl
  | cons h _ ih =>
    rw [List.map_cons, List.map_cons, ih, h.1]
theorem call_dictT {X : Cx} {k : Nat} (hr : Room k X.A) : CallR X (.type "dict") (rDictT X.prog X.w) := by
  intro pins s σ H vs us Q I r ⟨a, kvs, e, ha, hn, q⟩
  subst e
  obtain ⟨u, eu, ru⟩ := vals1 r
  subst eu
  cases (show u = Value.ref a from ru)
  obtain ⟨few, sys, ys, rel, dd⟩ := dt_rd I.hok ha
  have is0 : ∀ x ∈ ys, IsTupleKey (mixKind X.prog X.w) s.heap x.1 x.2.1 := by
    obtain ⟨_, _, _, _, _, _, _, z, _⟩ := dd
    exact z
  refine copied_T (knd := tupleKind (mixKind X.prog X.w)) (show X.A.in1.in1.units < cLine from ?_) sys dd (by rw [← Paired.length rel]; exact few) (fun x hx => ?_) (by
    have := kt_map rel (tupleKeyHash (mixKind X.prog X.w))
    show (ys.map fun x => tupleKeyHash (mixKind X.prog X.w) x.1).Nodup
    rw [this]
    exact hn) (fun h' g x hx => ?_) fun h' d' same => ?_
  · have := hr.un
    show X.A.units + 1 + 1 < cLine
    omega
  · obtain ⟨o, _, _, h1, h2, _⟩ := is0 x hx
    exact ⟨o, h1, h2⟩
  · obtain ⟨o, items, n, h1, h2⟩ := is0 x hx
    exact ⟨o, items, n, g _ _ h1, h2⟩
  · have hm : (s.heap.objs.size == sysModules) = false := beq_eq_false_iff_ne.mpr (Nat.ne_of_gt I.big)
    obtain ⟨q', es, ep, e1, e2, e3, e4, _, e5⟩ := d'
    have free : H s.heap.objs.size = none := I.hok.fresh (Nat.le_refl _)
    refine ⟨.ref s.heap.objs.size, upd H s.heap.objs.size (.dT kvs), I.laid (t' := s.toks) (fun b u e => (same.2 b (Nat.ne_of_lt (Heap.lt_size e))).trans (Heap.get?_push_of_some _ e)) (Nat.le_refl _) ?_, rfl, q _ free⟩
    exact ⟨few, hm, ys, rel.keeps fun c cs ec => (by rw [upd_ne fun z => by rw [z, free] at ec; cases ec]; exact ec), q', es, ep, e1, e2, e3, e4, e5⟩
def placeH (r c : Int) : Int := reduceHash (Builtin.Tuple.tupleHashOf [hashInt r, hashInt c])
theorem placeH_eq {P : Program} {w : World} (p : Pv.P2) : tupleKeyHash (mixKind P w) (Pv.pk p) = placeH p.1 p.2 := rfl
/-- the places of a sheet of at most 12 rows and columns hash apart -/
theorem apart_all : ((List.range 144).map fun k => placeH ((k / 12 : Nat) : Int) ((k % 12 : Nat) : Int)).Nodup := by decide +kernel
theorem apart_two {p q : Pv.P2} (hp : (0 ≤ p.1 ∧ p.1 < 12) ∧ 0 ≤ p.2 ∧ p.2 < 12) (hq : (0 ≤ q.1 ∧ q.1 < 12) ∧ 0 ≤ q.2 ∧ q.2 < 12) (h : placeH p.1 p.2 = placeH q.1 q.2) : p = q := by
  obtain ⟨a, b⟩ := p
  obtain ⟨c, d⟩ := q
  have num : ∀ x y : Int, (0 ≤ x ∧ x < 12) → (0 ≤ y ∧ y < 12) → ∃ k : Nat, k < 144 ∧ ((k / 12 : Nat) : Int) = x ∧ ((k % 12 : Nat) : Int) = y := fun x y hx hy => ⟨(x * 12 + y).toNat, by omega, by omega, by omega⟩
  obtain ⟨k, hk, e1, e2⟩ := num a b hp.1 hp.2
  obtain ⟨j, hj, f1, f2⟩ := num c d hq.1 hq.2
  dsimp only at h
  rw [← e1, ← e2, ← f1, ← f2] at h
  have g : ∀ i, i < 144 → ((List.range 144).map fun k => placeH ((k / 12 : Nat) : Int) ((k % 12 : Nat) : Int))[i]? = some (placeH ((i / 12 : Nat) : Int) ((i % 12 : Nat) : Int)) := fun i hi => by
    rw [List.getElem?_map, List.getElem?_range hi]
    rfl
  have e : k = j := (List.getElem?_inj (by rw [List.length_map, List.length_range]; exact hk) apart_all).mp (by rw [g k hk, g j hj, h])
  subst e
  rw [← e1, ← e2, ← f1, ← f2]
end Pm

/-! tables of rules as dicts; what a law reckons by hand -/
namespace Pq
open PySem PySem.Spec L2 Pr Pl Pv
/-! ### dicts told by places -/
def mT (V : List QQ) (f : QQ → Rl) : List (QQ × Pv.It) := V.map fun p => (p, .dat (f p).d)
theorem mT_look {V : List QQ} {f : QQ → Rl} (hV : V.Nodup) {p : QQ} (hp : p ∈ V) : (mT V f).lookup p = some (.dat (f p).d) :=
  lookup_map (f := fun p : QQ => p) (g := fun p => Pv.It.dat (f p).d) (by rw [List.map_id']; exact hV) hp
theorem mT_put {V : List QQ} {f : QQ → Rl} {p : QQ} (hp : p ∈ V) (r : Rl) : putM (mT V f) p (.dat r.d) = mT V (upF f p r) := by
  unfold putM mT
  rw [if_pos, List.map_map]
  · refine List.map_congr_left fun x _ => ?_
    show (if x = p then (x, Pv.It.dat r.d) else (x, Pv.It.dat (f x).d)) = (x, Pv.It.dat (upF f p r x).d)
    unfold upF
    by_cases z : x = p
    · rw [if_pos z, if_pos z]
    · rw [if_neg z, if_neg z]
  · rw [List.any_map, List.any_eq_true]
    exact ⟨p, hp, beq_self_eq_true p⟩
theorem mT_congr {V : List QQ} {f f' : QQ → Rl} (h : ∀ p ∈ V, f p = f' p) : mT V f = mT V f' := List.map_congr_left fun p hp => by rw [h p hp]
theorem mT_keys (V : List QQ) (f : QQ → Rl) : (mT V f).map (fun b => Pv.It.dat (Pv.pD b.1)) = V.map fun p => Pv.It.dat (Pl.pD p) := by
  unfold mT
  rw [List.map_map]
  rfl
theorem mT_len (V : List QQ) (f : QQ → Rl) : (mT V f).length = V.length := List.length_map _
theorem mT_dats (V : List QQ) (f : QQ → Rl) {n : Nat} : okOb n (.dic (mT V f)) = true := okDats fun b hb => by
  unfold mT at hb
  obtain ⟨p, _, rfl⟩ := List.mem_map.mp hb
  exact ⟨_, rfl⟩
theorem mNew_T (B : Bx) : mNew B = mT (vB B) fun _ => .num 0 := by
  unfold mNew
  rw [putAll_nodup (by rw [List.map_id']; exact vB_dup B)]
  rfl
/-- the places of a sheet, by their numbers -/
def PL (B : Bx) : List QQ := (rng (B.h * B.w)).map (plI B.w)
theorem plI_nat (w k : Nat) : plI w (k : Int) = plK w k := rfl
theorem PL_mem {B : Bx} (z : Sz B) {p : QQ} : p ∈ PL B ↔ B.has p.1 p.2 := by
  unfold PL rng
  rw [List.map_map, List.mem_map]
  constructor
  · rintro ⟨k, hk, rfl⟩
    exact plK_has z (List.mem_range.mp hk)
  · intro h
    obtain ⟨h1, h2⟩ := plK_noK z h
    exact ⟨_, List.mem_range.mpr h1, h2⟩
theorem PL_dup {B : Bx} (z : Sz B) : (PL B).Nodup := by
  unfold PL rng
  rw [List.map_map]
  unfold List.Nodup
  rw [List.pairwise_map]
  exact List.Pairwise.imp (fun h e => h (plK_inj z.w0 e)) (List.nodup_range (n := B.h * B.w))
theorem PL_len (B : Bx) : (PL B).length = B.h * B.w := by
  unfold PL
  rw [List.length_map, rng_len]
theorem PL_get {B : Bx} {k : Nat} (h : k < B.h * B.w) : (PL B)[k]? = some (plI B.w (k : Int)) := by
  unfold PL
  rw [List.getElem?_map, rng_get h]
  rfl
theorem ok_of {B : Bx} (z : Sz B) (few : B.h * B.w < 63) : B.Ok where
  hw := z.w0
  few := few
  lo := by rw [z.b0]; decide
  hi := by rw [z.b0]; decide
  w2 := Nat.le_trans z.w1 (by decide)
/-! ### known values, as the law finds them: round after round -/
def vPass (nd : QQ → List QQ) : List QQ → List QQ → List QQ → List QQ × List QQ
  | [], S, Y => (S, Y)
  | p :: L, S, Y => if (nd p).all (fun x => decide (x ∈ S)) then vPass nd L (S ++ [p]) Y else vPass nd L S (Y ++ [p])
def vLoop (nd : QQ → List QQ) : Nat → List QQ → List QQ → List QQ
  | 0, S, _ => S
  | n + 1, S, L => if (vPass nd L S []).2.length < L.length then vLoop nd n (vPass nd L S []).1 (vPass nd L S []).2 else (vPass nd L S []).1
/-- what is found so far, and what is left -/
structure Vn (V : List QQ) (nd : QQ → List QQ) (S L : List QQ) : Prop where
  perm : ∀ p, p ∈ V ↔ p ∈ S ∨ p ∈ L
  dup : (S ++ L).Nodup
  fr : ∀ p ∈ S, Fr nd p
  sub : ∀ p ∈ S, ∀ x ∈ nd p, x ∈ S
theorem vPass_snoc (nd : QQ → List QQ) : ∀ (L : List QQ) (p : QQ) (S Y : List QQ), vPass nd (L ++ [p]) S Y = if (nd p).all (fun x => decide (x ∈ (vPass nd L S Y).1)) then ((vPass nd L S Y).1 ++ [p], (vPass nd L S Y).2) else ((vPass nd L S Y).1, (vPass nd L S Y).2 ++ [p])
  | [], p, S, Y => rfl
  | a :: L, p, S, Y => by
    rw [List.cons_append]
    conv => lhs; unfold vPass
    have e : vPass nd (a :: L) S Y = if (nd a).all (fun x => decide (x ∈ S)) then vPass nd L (S ++ [a]) Y else vPass nd L S (Y ++ [a]) := by
      conv => lhs; unfold vPass
    rw [e]
    split
    · exact vPass_snoc nd L p _ _
    · exact vPass_snoc nd L p _ _
theorem vn_in {V : List QQ} {nd : QQ → List QQ} {S Y L : List QQ} {p : QQ} (h : Vn V nd S (Y ++ p :: L)) (z' : ∀ x ∈ nd p, x ∈ S) : Vn V nd (S ++ [p]) (Y ++ L) := by
  refine ⟨fun q => ?_, ?_, fun q hq => ?_, fun q hq x hx => ?_⟩
  · rw [h.perm]
    simp only [List.mem_append, List.mem_cons, List.mem_singleton, List.not_mem_nil, or_false]
    constructor
    · rintro (a | a | a | a)
      · exact .inl (.inl a)
      · exact .inr (.inl a)
      · exact .inl (.inr a)
      · exact .inr (.inr a)
    · rintro ((a | a) | a | a)
      · exact .inl a
      · exact .inr (.inr (.inl a))
      · exact .inr (.inl a)
      · exact .inr (.inr (.inr a))
  · have d := h.dup
    refine (List.Perm.nodup_iff ?_).mp d
    rw [List.append_assoc]
    exact List.Perm.append_left S List.perm_middle
  · rcases List.mem_append.mp hq with hq | hq
    · exact h.fr q hq
    · rw [List.mem_singleton.mp hq]
      exact .mk fun x hx => h.fr x (z' x hx)
  · rcases List.mem_append.mp hq with hq | hq
    · exact List.mem_append_left _ (h.sub q hq x hx)
    · rw [List.mem_singleton.mp hq] at hx
      exact List.mem_append_left _ (z' x hx)
theorem vPass_ok {V : List QQ} {nd : QQ → List QQ} : ∀ (L S Y : List QQ), Vn V nd S (Y ++ L) → Vn V nd (vPass nd L S Y).1 (vPass nd L S Y).2 ∧ (vPass nd L S Y).2.length ≤ Y.length + L.length ∧ ((vPass nd L S Y).2.length = Y.length + L.length → (vPass nd L S Y).1 = S ∧ (vPass nd L S Y).2 = Y ++ L ∧ ∀ p ∈ L, ∃ x ∈ nd p, x ∉ S)
  | [], S, Y, h => by
    rw [List.append_nil] at h
    exact ⟨h, Nat.le_refl _, fun _ => ⟨rfl, (List.append_nil _).symm, fun _ z => nomatch z⟩⟩
  | p :: L, S, Y, h => by
    unfold vPass
    by_cases z : (nd p).all (fun x => decide (x ∈ S)) = true
    · rw [if_pos z]
      have z' : ∀ x ∈ nd p, x ∈ S := fun x hx => of_decide_eq_true (List.all_eq_true.mp z x hx)
      have h' : Vn V nd (S ++ [p]) (Y ++ L) := vn_in h z'
      obtain ⟨a, b, c⟩ := vPass_ok L (S ++ [p]) Y h'
      rw [List.length_cons]
      exact ⟨a, by omega, fun e => by omega⟩
    · rw [if_neg z]
      have h' : Vn V nd S ((Y ++ [p]) ++ L) := by
        rw [List.append_assoc]
        exact h
      obtain ⟨a, b, c⟩ := vPass_ok L S (Y ++ [p]) h'
      rw [List.length_append] at b c
      rw [List.length_cons]
      refine ⟨a, by simp at b; omega, fun e => ?_⟩
      obtain ⟨c1, c2, c3⟩ := c (by simp; omega)
      refine ⟨c1, by rw [c2, List.append_assoc]; rfl, fun q hq => ?_⟩
      rcases List.mem_cons.mp hq with rfl | hq
      · refine Classical.byContradiction fun no => z (List.all_eq_true.mpr fun x hx => decide_eq_true ?_)
        exact Classical.byContradiction fun y => no ⟨x, hx, y⟩
      · exact c3 q hq
theorem vLoop_ok {V : List QQ} {nd : QQ → List QQ} (hsub : ∀ p ∈ V, ∀ x ∈ nd p, x ∈ V) : ∀ (n : Nat) (S L : List QQ), Vn V nd S L → L.length < n → ∃ L', Vn V nd (vLoop nd n S L) L' ∧ ∀ p, p ∈ vLoop nd n S L ↔ p ∈ V ∧ Fr nd p
  | 0, S, L, _, h => absurd h (Nat.not_lt_zero _)
  | n + 1, S, L, h, hn => by
    obtain ⟨a, b, c⟩ := vPass_ok L S [] h
    rw [List.length_nil, Nat.zero_add] at b c
    unfold vLoop
    by_cases z : (vPass nd L S []).2.length < L.length
    · rw [if_pos z]
      exact vLoop_ok hsub n _ _ a (by omega)
    · rw [if_neg z]
      obtain ⟨c1, c2, c3⟩ := c (by omega)
      refine ⟨_, a, fun p => ⟨fun hp => ⟨(a.perm p).mpr (.inl hp), a.fr p hp⟩, fun ⟨hp, hf⟩ => ?_⟩⟩
      rw [c1]
      have key : ∀ p, Fr nd p → p ∈ V → p ∈ S := fun p hf => by
        induction hf with
        | @mk p hx ih =>
          intro hp
          rcases (h.perm p).mp hp with q | q
          · exact q
          · obtain ⟨x, hx', no⟩ := c3 p q
            exact absurd (ih x hx' (hsub p hp x hx')) no
      exact key p hf hp
theorem vn_zero {V : List QQ} {nd : QQ → List QQ} (hV : V.Nodup) : Vn V nd [] V := ⟨fun p => ⟨fun h => .inr h, fun h => h.elim (fun z => nomatch z) id⟩, hV, fun _ h => (nomatch h), fun _ h => (nomatch h)⟩
def vals (V : List QQ) (nd : QQ → List QQ) : List QQ := vLoop nd (V.length + 1) [] V
theorem vals_ok {V : List QQ} {nd : QQ → List QQ} (hV : V.Nodup) (hsub : ∀ p ∈ V, ∀ x ∈ nd p, x ∈ V) : (vals V nd).Nodup ∧ ∀ p, p ∈ vals V nd ↔ p ∈ V ∧ Fr nd p := by
  obtain ⟨L', a, b⟩ := vLoop_ok hsub (V.length + 1) [] V (vn_zero hV) (Nat.lt_succ_self _)
  exact ⟨(List.nodup_append.mp a.dup).1, b⟩
/-- Fr asks for the needs alone -/
theorem fr_same {nd nd' : QQ → List QQ} (C : QQ → Prop) (hC : ∀ p, C p → ∀ x, x ∈ nd p → C x) (h : ∀ p, C p → ∀ x, x ∈ nd p ↔ x ∈ nd' p) : ∀ p, Fr nd p → C p → Fr nd' p := fun p hp => by
  induction hp with
  | @mk p hx ih =>
    intro hc
    exact .mk fun x hx' => ih x ((h p hc x).mpr hx') (hC p hc x ((h p hc x).mpr hx'))
theorem dep_dp (r : Rl) : r.dep ≤ dp r + 1 := by
  induction r with
  | num n => simp only [Rl.dep, dp]; omega
  | cell x => simp only [Rl.dep, dp]; omega
  | sum x y => simp only [Rl.dep, dp]; omega
  | most x y => simp only [Rl.dep, dp]; omega
  | add a b h1 h2 => simp only [Rl.dep, dp]; omega
  | sub a b h1 h2 => simp only [Rl.dep, dp]; omega
  | mul a b h1 h2 => simp only [Rl.dep, dp]; omega
  | pick a b c h1 h2 h3 => simp only [Rl.dep, dp]; omega
  | look a x y b h1 h2 => simp only [Rl.dep, dp]; omega
/-- what rules are asked to be -/
structure Ru (B : Bx) (f : QQ → Rl) : Prop where
  inb : ∀ p : QQ, B.has p.1 p.2 → inb B (f p)
  size : ∀ p : QQ, B.has p.1 p.2 → (f p).size ≤ 100
  dep : ∀ p : QQ, B.has p.1 p.2 → dp (f p) ≤ 8
theorem Ru.up {B : Bx} {f : QQ → Rl} (h : Ru B f) {p : QQ} {r : Rl} (h1 : Pl.inb B r) (h2 : r.size ≤ 100) (h3 : dp r ≤ 8) : Ru B (upF f p r) where
  inb := fun q hq => by unfold upF; split; exact h1; exact h.inb q hq
  size := fun q hq => by unfold upF; split; exact h2; exact h.size q hq
  dep := fun q hq => by unfold upF; split; exact h3; exact h.dep q hq
theorem Ru.tb {B : Bx} (z : Sz B) {f : QQ → Rl} (h : Ru B f) : Tb B f (mT (vB B) f) := ⟨fun p hp => mT_look (vB_dup B) ((vB_mem z).mpr hp), h.inb, h.size, h.dep⟩
theorem ndL_few {B : Bx} (z : Sz B) {r : Rl} (h : inb B r) (hs : r.size ≤ 100) : (ndL r).length ≤ 50000 := by
  have := ndL_le z h
  have : r.size * 145 ≤ 100 * 145 := Nat.mul_le_mul_right _ hs
  omega
theorem eqv_pls : ∀ ps : List QQ, PyData.eqvAll (plD ps) (plD ps) = true
  | [] => rfl
  | p :: ps => by
    show (PyData.eqv (Pl.pD p) (Pl.pD p) && PyData.eqvAll (plD ps) (plD ps)) = true
    rw [eqv_pls ps]
    simp [Pl.pD, PyData.eqv, PyData.eqvAll]
theorem pl_shaped (ps : List QQ) : SeqAt.shaped (.list (plD ps)) = true := by
  have lay : ∀ ps : List QQ, PyData.canLayAll0 (plD ps) = true := by
    intro ps
    induction ps with
    | nil => rfl
    | cons p ps ih =>
      show (PyData.canLay0 (Pl.pD p) && PyData.canLayAll0 (plD ps)) = true
      rw [ih]
      rfl
  have dep : ∀ ps : List QQ, PyData.depthAll (plD ps) ≤ 1 := by
    intro ps
    induction ps with
    | nil => exact Nat.zero_le _
    | cons p ps ih =>
      show max (PyData.depth (Pl.pD p)) (PyData.depthAll (plD ps)) ≤ 1
      have : PyData.depth (Pl.pD p) = 1 := rfl
      omega
  unfold SeqAt.shaped
  have e : PyData.canLay0 (.list (plD ps)) = true := lay ps
  rw [e, Bool.true_and]
  refine decide_eq_true ?_
  show PyData.depthAll (plD ps) + 1 ≤ 64
  have := dep ps
  omega
theorem eqv_nil (ps : List QQ) : PyData.eqv (.list (plD ps)) (.list (plD [])) = ps.isEmpty := by
  cases ps <;> rfl
end Pq

/-! rules of the machine for sets of tuples: a place looked for, one more place, {place} -/
namespace Pm
open PySem PySem.Spec L2
open PyProof.Rows
section
/-- the c-th step of the way of a hash -/
def wst (t : SetTable) (h : Int) (c : Nat) : SetTable.Probe := nth t.mask (t.probeStart h) c
theorem wst_j (t : SetTable) (h : Int) (c : Nat) : (wst t h c).j = way t.mask h c := rfl
theorem wst_on (t : SetTable) (h : Int) (c q : Nat) : nth t.mask (wst t h c) q = wst t h (c + q) := by
  unfold wst
  rw [nth_add]
theorem wst_dm (t : SetTable) (h : Int) : ∀ c, (wst t h c).dummy = none
  | 0 => rfl
  | c + 1 => by
    have ih := wst_dm t h c
    unfold wst at ih ⊢
    rw [nth_succ]
    unfold adv
    split <;> exact ih
variable {P : Program} {w : World} {A : Around} {E : Value → Shared → Prop} {s : Shared} {a x : Addr} {L : List (Addr × List Int)} {es : Array (Int × Value)} {ep : Nat} {t : SetTable} {k : List Int}
/-- where a stored one lies ahead of the empty slot -/
def Ahead (P : Program) (w : World) (L : List (Addr × List Int)) (t : SetTable) (k : List Int) (K c : Nat) : Prop := ∀ (i : Nat) (p : Addr × List Int), L[i]? = some p → p.2 = k → ∃ d, c ≤ d ∧ d < K ∧ t.place.toList[i]? = some (way t.mask (thash P w k) d)
/-- one turn: a stored one is compared -/
theorem seek_rest (R : SetTR P w s.heap a L es ep t) (hx : IsT P w s.heap k x) (hu : A.units < cLine) {f c i : Nat} {next : SetTable.Probe} {Q : SetFound → Shared → Prop}
    (hi : t.place.toList[i]? = some (way t.mask (thash P w k) c)) (hyes : ∀ p, L[i]? = some p → p.2 = k → Q (.there (some i)) s)
    (hno : (∀ p, L[i]? = some p → p.2 ≠ k) → wpAny (model P w) A (setSearchFrom a (.ref x) (thash P w k) false f (some next)) Q E s) :
    wpAny (model P w) A (searchRest a (.ref x) (thash P w k) false f es t (way t.mask (thash P w k) c) i next) Q E s := by
  obtain ⟨o, ho, _, hd⟩ := R.ob
  have hil : i < L.length := by
    have h1 := (List.getElem?_eq_some_iff.mp hi).1
    have h2 := R.tab.sz
    simp only [List.length_map, Array.length_toList] at h1 h2
    omega
  obtain ⟨p, hp⟩ : ∃ p, L[i]? = some p := ⟨_, List.getElem?_eq_getElem hil⟩
  have en := R.entry hp
  have hpt := R.tup p (List.mem_of_getElem? hp)
  unfold searchRest
  rw [en]
  dsimp only
  refine wpAny_bind (wpAny_holding (wpAny_eqBool_tuple hu hpt hx (wpAny_bind (wpAny_setState_of ho hd R.fits ?_))))
  dsimp only
  simp only [Bool.false_and, Bool.false_eq_true, if_false]
  try refine wpAny_bind (wpAny_pure ?_)
  rw [sameMem]
  dsimp only
  simp only [if_true, slot_live R.tab.ris hi, en]
  refine wpAny_bind (wpAny_isSame_ref_self (wpAny_bind (wpAny_pure ?_)))
  simp only [if_true]
  by_cases hk : p.2 = k
  · exact wp_if_pos (by simp [hk]) (wpAny_pure (hyes p hp hk))
  · exact wp_if_neg (by simp [hk]) (hno fun p' hp' => by rw [hp] at hp'; cases hp'; exact hk)
theorem seek_from (R : SetTR P w s.heap a L es ep t) (hx : IsT P w s.heap k x) (hu : A.units < cLine) {K : Nat} (lim : K < 10 * SetTable.turns t.mask)
    (hK : way t.mask (thash P w k) K ∉ t.place.toList) (hb : ∀ c, c < K → way t.mask (thash P w k) c ∈ t.place.toList) {Q : SetFound → Shared → Prop}
    (hyes : ∀ i p, L[i]? = some p → p.2 = k → Q (.there (some i)) s) (hno : (∀ p ∈ L, p.2 ≠ k) → ∀ j d, Q (.free j d) s) :
    ∀ (f c : Nat) (stand : Option SetTable.Probe), stand.getD (t.probeStart (thash P w k)) = wst t (thash P w k) c → c ≤ K → K - c < f → Ahead P w L t k K c →
      wpAny (model P w) A (setSearchFrom a (.ref x) (thash P w k) false f stand) Q E s
  | 0, _, _, _, _, hf, _ => absurd hf (Nat.not_lt_zero _)
  | f + 1, c, stand, hs, hc, hf, hre => by
    obtain ⟨o, ho, _, hd⟩ := R.ob
    have hashAt : ∀ (i : Nat) p, L[i]? = some p → (es[i]?.map (·.1)).getD 0 = thash P w p.2 := fun i p hp => by
      rw [R.entry hp] <;> rfl
    have spec := go_spec t R.tab.ris R.tab.dm (fun i => (es[i]?.map (·.1)).getD 0) (thash P w k) (10 * SetTable.turns t.mask) (K - c) _ (wst_dm t (thash P w k) c) (by omega)
      (fun q hq => by rw [wst_on]; exact hb (c + q) (by omega)) (by rw [wst_on, show c + (K - c) = K by omega]; exact hK)
    simp only [wst_on] at spec
    rw [setSearchFrom_succ]
    refine wpAny_bind (wpAny_setState_of ho hd R.fits ?_)
    dsimp only
    refine wp_if_neg R.gw ?_
    try refine wpAny_bind (wpAny_pure ?_)
    unfold SetTable.probe
    rw [hs]
    rcases spec with ⟨q, i, hq, hi, hh, hn, hpr⟩ | ⟨hn, hpr⟩
    · rw [hpr]
      dsimp only
      have rest : wpAny (model P w) A (searchRest a (.ref x) (thash P w k) false f es t (wst t (thash P w k) (c + q)).j i (wst t (thash P w k) (c + (q + 1)))) Q E s := by
        refine seek_rest R hx hu hi (hyes i) fun ne => ?_
        refine seek_from R hx hu lim hK hb hyes hno f (c + (q + 1)) _ rfl (by omega) (by omega) fun i0 p0 h0 e0 => ?_
        obtain ⟨d, d1, d2, d3⟩ := hre i0 p0 h0 e0
        refine ⟨d, ?_, d2, d3⟩
        rcases Nat.lt_trichotomy d (c + q) with z | z | z
        · refine absurd ((hashAt i0 p0 h0).trans (congrArg (thash P w) e0)) (hn (d - c) i0 (by omega) ?_)
          rw [show c + (d - c) = d by omega]
          exact d3
        · subst z
          have s1 := slot_live R.tab.ris d3
          have s2 := slot_live R.tab.ris hi
          rw [wst_j, s1] at s2
          injection s2 with s2
          subst s2
          exact absurd e0 (ne p0 h0)
        · omega
      by_cases hl : t.led = true
      · refine wp_if_neg (by simp [hl]) ?_
        try refine wpAny_bind (wpAny_pure ?_)
        exact rest
      · refine wp_if_pos (by simp [hl]) (wpAny_bind (seen_tup hx (fun y hy => ?_) ?_))
        · obtain ⟨e, he, ee⟩ := List.mem_map.mp hy
          have he2 : e ∈ es.toList := by
            have : e ∈ es ∧ e.1 = thash P w k := by simpa using he
            simpa using this.1
          rw [R.rows] at he2
          obtain ⟨p2, hp2, e2⟩ := List.mem_map.mp he2
          exact ⟨p2.2, p2.1, by rw [← ee, ← e2], R.tup p2 hp2⟩
        · refine wp_if_neg (by decide) ?_
          try refine wpAny_bind (wpAny_pure ?_)
          exact rest
    · rw [hpr]
      dsimp only
      refine wpAny_pure (hno (fun p hp e => ?_) _ _)
      obtain ⟨i, hi, ei⟩ := List.getElem_of_mem hp
      have h0 : L[i]? = some p := by rw [List.getElem?_eq_getElem hi, ei]
      obtain ⟨d, d1, d2, d3⟩ := hre i p h0 e
      refine hn (d - c) i (by omega) ?_ ((hashAt i p h0).trans (congrArg (thash P w) e))
      rw [show c + (d - c) = d by omega]
      exact d3
/-- a tuple looked for in a set of tuples -/
theorem setFind_T (R : SetTR P w s.heap a L es ep t) (hx : IsT P w s.heap k x) (hu : A.units < cLine) {Q : Option Nat → Shared → Prop} (h : ∀ r : Option Nat, r.isSome = decide (k ∈ L.map (·.2)) → Q r s) :
    wpAny (model P w) A (setFind a (.ref x) (thash P w k)) Q E s := by
  obtain ⟨o, ho, _, hd⟩ := R.ob
  have hroom := R.room
  obtain ⟨K, hKf, hK, hKb⟩ := R.tab.first (by rw [List.length_map]; omega) (thash P w k)
  have hbig : 10 * SetTable.turns t.mask ≤ 1420 := by
    unfold SetTable.turns
    rcases R.tab.mok with e | e | e <;> omega
  unfold setFind
  rw [show (100000 : Nat) = 99999 + 1 from rfl]
  unfold setFindIn
  refine wpAny_bind (wpAny_setState_of ho hd R.fits ?_)
  dsimp only
  refine wp_if_neg (by simp [byScan, Value.scannable]) ?_
  try refine wpAny_bind (wpAny_pure ?_)
  unfold setSearch
  refine wpAny_bind (seek_from R hx hu hKf hK hKb (fun i p hp e => ?_) (fun hn j d => ?_) 100000 0 none rfl (Nat.zero_le _) (by omega) fun i p hp e => ?_)
  · exact wpAny_pure (h _ (by simp only [Option.isSome_some]; exact (decide_eq_true (List.mem_map.mpr ⟨p, List.mem_of_getElem? hp, e⟩)).symm))
  · exact wpAny_pure (h _ (by
      simp only [Option.isSome_none]
      refine (decide_eq_false fun z => ?_).symm
      obtain ⟨p, hp, e⟩ := List.mem_map.mp z
      exact hn p hp e))
  · have hi : (L.map fun p => thash P w p.2)[i]? = some (thash P w k) := by rw [List.getElem?_map, hp, ← e] <;> rfl
    have hil : i < t.place.toList.length := by
      have h1 := (List.getElem?_eq_some_iff.mp hp).1
      have h2 := R.tab.sz
      simp only [List.length_map, Array.length_toList] at h2 ⊢
      omega
    have hj := List.getElem?_eq_getElem hil
    obtain ⟨c, hc, ec⟩ := R.tab.before hK hi hj
    exact ⟨c, Nat.zero_le _, hc, by rw [hj, ec]⟩
end
section
variable {X : Cx}
/-- place in found, found a set of tuples -/
def rInT (b : Bool) (K : PySem.W.Frag) (P : Program) (w : World) : R2 := fun x y H Q => ∃ (D t : Addr) (L : List (Addr × List Int)) (k : List Int), x = .ref t ∧ y = .ref D ∧ H D = some (SetTO P w D L) ∧ (∀ p ∈ L, SqT K H p.1 (p.2.map V.int)) ∧ SqT K H t (k.map V.int) ∧ Q (.bl (decide (k ∈ L.map (·.2)) != b)) H
theorem contains_T {A : Around} {E : Value → Shared → Prop} {P : Program} {w : World} {s : Shared} {D x : Addr} {L : List (Addr × List Int)} {es : Array (Int × Value)} {ep : Nat} {t : SetTable} {k : List Int} {Q : Bool → Shared → Prop}
    (R : SetTR P w s.heap D L es ep t) (hx : IsT P w s.heap k x) (hu : A.units + 64 < cLine) (h : ∀ n, Q (decide (k ∈ L.map (·.2))) { s with toks := n }) : wpAny (model P w) A (contains (.ref D) (.ref x)) Q E s := by
  obtain ⟨o, ho, hex, hd⟩ := R.ob
  have ty : s.TypeIs (.ref D) "set" := ⟨o, ho, hex.1⟩
  have hu1 : A.in1.units < cLine := by show A.units + 1 < cLine; omega
  unfold contains
  try with_reducible refine wpAny_holding ?_
  refine wpAny_bind (wpAny_specialOf ty PySem.F.slot_set_contains.lookup ?_)
  refine wp_if_neg (by rw [beq_builtin_none]; exact Bool.false_ne_true) ?_
  try refine wpAny_bind (wpAny_pure ?_)
  refine wpAny_bind (wpAny_callSpecialUnlessNone?_slot (name := Str.ofString "__contains__") ty PySem.F.slot_set_contains (wpAny_call_entry PySem.F.slot_set_contains ty entry_set_contains ?_ (PySem.F.args_set_contains_2 _ _)))
  unfold Builtin.«frozenset.__contains__» Builtin.Frozenset.oneOther
  simp only [List.isEmpty_nil, bind_assoc]
  unfold Builtin.Frozenset.addrOf Builtin.Frozenset.withSetAsKey setContains
  refine wpAny_bind (wpAny_pure ?_)
  try dsimp only
  refine wpAny_bind (wpAny_pure ?_)
  try dsimp only
  refine wpAny_bind (wpAny_tryCatch (wpAny_holding (wpAny_bind (wpAny_pyHash_tuple hu1 hx ?_))))
  refine wpAny_bind (setFind_T (s := { s with toks := s.toks + (k.length + 1) }) R hx hu1 fun r hr => wpAny_pure ?_)
  show wpAny _ _ (ret (Value.bool r.isSome)) _ _ _
  rw [hr]
  exact wpAny_pure ⟨_, rfl, wpAny_truthy_bool (h _)⟩
theorem op_in_setT (hu : X.A.units + 64 < cLine) : OpR X (compareOp .In) (rInT false X.K X.prog X.w) := by
  intro pins s σ H x y v u Q I rx ry h
  obtain ⟨D, t, L, k, rfl, rfl, hD, hL, ht, q⟩ := h
  cases (show v = Value.ref t from rx)
  cases (show u = Value.ref D from ry)
  obtain ⟨es, ep, tb, R⟩ := ((I.hok D _ hD).1 : SetT0 X.prog X.w s.heap D L).full fun p hp => I.isT (hL p hp)
  show wpAny _ _ (do return Value.bool (← contains (.ref D) (.ref t))) _ _ s
  exact wpAny_bind (contains_T R (I.isT ht) hu fun n => wpAny_pure ⟨.bl _, H, I.tok n, by show Value.bool _ = Value.bool _; simp, q⟩)
theorem op_notIn_setT (hu : X.A.units + 64 < cLine) : OpR X (compareOp .NotIn) (rInT true X.K X.prog X.w) := by
  intro pins s σ H x y v u Q I rx ry h
  obtain ⟨D, t, L, k, rfl, rfl, hD, hL, ht, q⟩ := h
  cases (show v = Value.ref t from rx)
  cases (show u = Value.ref D from ry)
  obtain ⟨es, ep, tb, R⟩ := ((I.hok D _ hD).1 : SetT0 X.prog X.w s.heap D L).full fun p hp => I.isT (hL p hp)
  show wpAny _ _ (do return Value.bool (!(← contains (.ref D) (.ref t)))) _ _ s
  exact wpAny_bind (contains_T R (I.isT ht) hu fun n => wpAny_pure ⟨.bl _, H, I.tok n, by show Value.bool _ = Value.bool _; simp, q⟩)
/-- found.add(place) -/
def rAddT (K : PySem.W.Frag) (P : Program) (w : World) : V → List V → Hp → VK → Prop := fun x xs H Q => ∃ (D t : Addr) (L : List (Addr × List Int)) (k : List Int), x = .ref D ∧ xs = [.ref t] ∧ H D = some (SetTO P w D L) ∧ (∀ p ∈ L, SqT K H p.1 (p.2.map V.int)) ∧ SqT K H t (k.map V.int) ∧ L.length + 1 < 64 ∧
  ∀ L', (k ∈ L.map (·.2) → L' = L) → (k ∉ L.map (·.2) → L'.Perm ((t, k) :: L)) → Q .non (upd H D (SetTO P w D L'))
theorem mt_addT (hu : X.A.units + 64 < cLine) : MtR X "set.add" (rAddT X.K X.prog X.w) := by
  intro pins s σ H x xs v us Q I rx rxs h
  obtain ⟨D, t, L, k, rfl, rfl, hD, hL, ht, few, q⟩ := h
  cases (show v = Value.ref D from rx)
  cases rxs with
  | cons rb rt =>
    cases rt
    cases (show _ = Value.ref t from rb)
    exact Pu.addT_ok I hu hD hL ht few fun L' s' c1 c2 J => ⟨.non, _, J, rfl, q L' c1 c2⟩
/-- found.add(place), as it is written -/
def tSAdd (K : PySem.W.Frag) (P : Program) (w : World) (to : TE) (t : TA) : TE := fun σ H Q => to σ H fun x H1 => (∃ D L, x = .ref D ∧ H1 D = some (SetTO P w D L)) ∧ t σ H1 fun ys H2 => rAddT K P w x ys H2 Q
theorem pe_setAdd {o e : Expr} {to : TE} {t : TA} {apos cpos : Pos} (hu : X.A.units + 64 < cLine) (ho : PE X o to) (ha : PA X [e] t) (hb : attributeBase o ("add" : Str) X.env (eval o X.env) = eval o X.env := by rfl)
    (few : ((backTo cpos (starEach [e] X.env)).all (fun x => !x.1) && (backToKw cpos (keywordEach [] X.env)).all (fun x => x.1.isSome) && decide ([e].length + ([] : List Keyword).length + (if ([] : List Keyword).isEmpty then 0 else 1) < 30)) = true := by rfl)
    (ln : (apos.endLine == cpos.line) = true := by rfl) (st : starEach [e] X.env = [(false, eval e X.env)] := by rfl) : PE X (.Call (.Attribute o ("add" : Str) apos) [e] [] cpos) (tSAdd X.K X.prog X.w to t) := .mk fun pins s σ H Q I h => by
  refine wpAny_Call_method_late hb few ln rfl (thn (ho.run pins s σ H _ I h) fun v s1 ⟨x, H1, J, r1, ⟨D, L, ex, hD⟩, q1⟩ => ?_)
  subst ex
  cases (show v = Value.ref D from r1)
  obtain ⟨es, ep, tb, ⟨ob, hob, hex, hd⟩, _⟩ := ((J.hok D _ hD).1 : SetT0 X.prog X.w s1.heap D L).ex
  refine ⟨"set", "set.add", PySem.F.plainAttrs_set, PySem.F.slot_set_add, PySem.F.type_set_add, ⟨ob, hob, hex.1⟩, fun a ea => ?_, ?_⟩
  · cases ea
    exact ⟨ob, hob, hex.2.1⟩
  have hA := ha.run cpos pins s1 σ H1 _ J q1
  rw [st] at hA ⊢
  refine Calls.callWith_builtin rfl (Calls.evalArgs_plain ?_)
  exact thn hA fun us s2 ⟨ys, H2, J2, r2, q2⟩ => mt_addT hu pins s2 σ H2 (.ref D) ys (.ref D) us Q J2 rfl r2 q2
/-- {place} -/
def tSetT1 (K : PySem.W.Frag) (P : Program) (w : World) (te : TE) : TE := fun σ H Q => ∀ D, H D = none → te σ (upd H D (SetTO P w D [])) fun x H1 => ∃ (t : Addr) (k : List Int), x = .ref t ∧ H1 D = some (SetTO P w D []) ∧ SqT K H1 t (k.map V.int) ∧
  Q (.ref D) (upd H1 D (SetTO P w D [(t, k)]))
theorem pe_setT1 {e : Expr} {te : TE} {pos : Pos} (hu : X.A.units + 64 < cLine) (hc : PySem.W.kdsCode X.K X.env.code = true) (he : PE X e te) (hp : PySem.W.kdsPlain e = true := by rfl) : PE X (.Set [e] 0 pos) (tSetT1 X.K X.prog X.w te) := .mk fun pins s σ H Q I h => by
  have road : displayRoad 0 [e] = DisplayRoad.oneByOne := rfl
  rw [arm_eval_Set]
  refine wpAny_bind (wpAny_standAt (wpAny_bind (PySem.W.kds_main I.kIn hc fun b => ?_)))
  rw [PySem.W.kds_star [e] (by rw [List.all_cons, hp]; rfl), List.map_map, road]
  unfold setDisplay
  try dsimp only
  rw [if_neg (by decide)]
  refine wpAny_bind (wpAny_newSet_raw fun led hled => ?_)
  have fr := I.fresh
  have R0 : SetTR X.prog X.w (s.heap.push { cls := .type "set", dict := none, data := .set #[] 0 (.fresh 0 0 (!X.w.params.followText "set-order")) }) s.heap.objs.size [] #[] 0 (.fresh 0 0 (!X.w.params.followText "set-order")) := setTR_fresh (Heap.get?_push_size _ rfl)
  subst hled
  have J := I.laid (t' := s.toks) (fun b u hb => Heap.get?_push_of_some _ hb) (Nat.le_refl _) (setTO_new R0.t0)
  dsimp only
  refine wpAny_bind (wpAny_holding ?_)
  rw [show evalEach [e] X.env = [eval e X.env] from rfl]
  simp only [List.map_cons, List.map_nil, Function.comp, List.length_cons, List.length_nil, List.findIdx?_cons, List.findIdx?_nil, Nat.zero_add, Bool.false_eq_true, if_false, Option.map_none, Option.getD_none, show ¬ (1 > 30) by decide, List.take_succ_cons, List.take_zero, List.drop_succ_cons, List.drop_zero, List.forIn_nil]
  have all := he.run pins _ σ _ _ J (h _ fr)
  refine wpAny_bind (wpAny_evalAll_cons (wpAny_bind (wpAny_mono all (fun v s1 h1 => ?_) fun _ _ x => x)))
  obtain ⟨x, H1, J1, rv, t, k, rfl, hD, ht, q⟩ := h1
  cases (show v = Value.ref t from rv)
  refine wpAny_bind (wpAny_standAt (wpAny_pure (wpAny_evalAll_nil ?_)))
  obtain ⟨es, ep, tb, R⟩ := ((J1.hok _ _ hD).1 : SetT0 X.prog X.w s1.heap s.heap.objs.size []).full fun p hp => nomatch hp
  have hT := J1.isT ht
  refine wpAny_bind (wpAny_holding ?_)
  rw [List.forIn_cons]
  unfold setAdd
  refine wpAny_bind (wpAny_bind (wpAny_bind (wpAny_holding (wpAny_bind (wpAny_pyHash_tuple (by omega) hT ?_)))))
  refine add_at (s := { s1 with toks := s1.toks + (k.length + 1) }) R hT (by omega) (by show 0 + 1 < 64; decide) fun b h' L' es' ep' t' sb R' c1 c2 => ?_
  have eL : L' = [(t, k)] := List.perm_singleton.mp (c2 (fun z => nomatch z))
  subst eL
  obtain ⟨o', ho', _⟩ := R'.ob
  have J2 := J1.write (e := s.heap.objs.size) (t' := s1.toks + (k.length + 1)) (by rw [hD]; trivial) (.inl rfl) (fun b u hb hu => (sb.2 b hb).trans hu) ⟨o', ho'⟩ (setTO_new R'.t0)
  refine wpAny_pure ?_
  dsimp only
  rw [List.forIn_nil]
  refine wpAny_pure ?_
  rw [if_neg (by decide)]
  exact wpAny_pure (wpAny_bind (wpAny_pure (wpAny_pure (wpAny_pure ⟨.ref _, _, J2, rfl, q⟩))))
theorem op_inDK {K : PySem.W.Frag} (h : X.K = K) (hu : X.A.units + 65 < cLine) : OpR X (compareOp .In) (rInD K) := h ▸ op_inD hu
theorem op_notInDK {K : PySem.W.Frag} (h : X.K = K) (hu : X.A.units + 65 < cLine) : OpR X (compareOp .NotIn) (rNotInD K) := h ▸ op_notInD hu
theorem op_in_setTK {K : PySem.W.Frag} {P : Program} {w : World} (h : X.K = K) (hp : X.prog = P) (hw : X.w = w) (hu : X.A.units + 64 < cLine) : OpR X (compareOp .In) (rInT false K P w) := by
  subst h hp hw
  exact op_in_setT hu
theorem op_notIn_setTK {K : PySem.W.Frag} {P : Program} {w : World} (h : X.K = K) (hp : X.prog = P) (hw : X.w = w) (hu : X.A.units + 64 < cLine) : OpR X (compareOp .NotIn) (rInT true K P w) := by
  subst h hp hw
  exact op_notIn_setT hu
theorem kds_of {K : PySem.W.Frag} {cd : Value} {q : Str} (h : PySem.W.codeIn K cd q = true) : PySem.W.kdsCode K cd = true := by
  unfold PySem.W.codeIn at h
  unfold PySem.W.kdsCode
  split at h
  · split at h
    · rename_i e
      dsimp only
      rw [e]
    · cases h
  · cases h
/-- set(xs), each place of it once -/
def rSetOfN (K : PySem.W.Frag) (P : Program) (w : World) : List V → Hp → VK → Prop := fun xs H Q => ∃ (l : Addr) (ks : List (Addr × List Int)), xs = [V.ref l] ∧ SqL K H l (ks.map fun p => V.ref p.1) ∧ (∀ p ∈ ks, SqT K H p.1 (p.2.map V.int)) ∧ ks.length < 64 ∧
  ∀ a L, H a = none → (L.map (·.2)).Nodup → (∀ p ∈ L, p ∈ ks) → (∀ p ∈ ks, p.2 ∈ L.map (·.2)) → Q (.ref a) (upd H a (SetTO P w a L))
theorem cr_setOfN (hc : X.calm = true) (hu : X.A.units + 64 < cLine) : CallR X (.type "set") (rSetOfN X.K X.prog X.w) := by
  intro pins s σ H xs us Q I r h
  obtain ⟨l, ks, rfl, hl, hk, hf, q⟩ := h
  refine wpAny_mono (cr_setOfT hc hu pins s σ H _ us (fun v H' => ∃ a L, v = .ref a ∧ H' = upd H a (SetTO X.prog X.w a L) ∧ H a = none ∧ (∀ p ∈ L, p ∈ ks) ∧ ∀ p ∈ ks, p.2 ∈ L.map (·.2)) I r ⟨l, ks, rfl, hl, hk, hf, fun a L h1 h2 h3 => ⟨a, L, rfl, rfl, h1, h2, h3⟩⟩) (fun u s' ⟨v, H', J, rv, a, L, e1, e2, h1, h2, h3⟩ => ?_) fun _ _ x => x
  subst e1 e2
  obtain ⟨es, ep, t, _, _, _, nd, _⟩ := ((J.hok a _ upd_same).1 : SetT0 X.prog X.w s'.heap a L).ex
  exact ⟨.ref a, _, J, rv, q a L h1 nd h2 h3⟩
end
end Pm

/-! sets of places in the store -/
namespace Pq
open PySem PySem.Spec L2 Pr Pl Pv
open PyProof.Rows (envOfC)
section
variable {P : Program} {w : World} {K : PySem.W.Frag} {mg : Str → Option Value} {base : Heap}
/-- the rule for a def, its code known -/
theorem fn_okC {x qual : Str} {st0 : Stmt} {f : Addr} {fd : FuncData} {N ps : List Str} {k : Nat} {sp : Sp} (F : Fun K x qual st0 f fd) (S : FnScope N ps (defScope st0)) (len : ∀ vs H Q E, sp vs H Q E → vs.length = ps.length)
    (h : ∀ (cdv : Value), PySem.W.codeIn K cdv qual = true → ∀ (A : Around) (outer : List Env) (s : Shared) (H : Hp) (vs : List V) (Q : VK) (E : XK), Room k (A.deeper (envOfC qual (defScope st0) s.heap.objs.size f cdv)) → sp vs H Q E →
      ∃ t, PSs (cxOf CX0 P w K mg base N qual (defScope st0) f cdv A outer s H E).nox (defBody st0) t ∧ t { nx := fun _ H' => Q .non H', rt := Q } (start N vs) H) : FnOk P w K mg base CX0 (k + 1) f fd ps sp := by
  obtain ⟨_, _, _, _, _, _, cdv, _, _, rfl, lk, hcd⟩ := F.ex
  refine fn_of lk hcd S len fun A outer s H vs Q E hr hsp => ?_
  obtain ⟨t, ht, q⟩ := h cdv hcd A outer s H vs Q E hr hsp
  exact ⟨t, ht.nox, q⟩
theorem fn_qC {α : Type} {args : α → List Pv.It} {pre : List Ob → α → Prop} {res : α → Rv} {x qual : Str} {st0 : Stmt} {f : Addr} {fd : FuncData} {N ps : List Str} {k : Nat} (F : Fun K x qual st0 f fd) (S : FnScope N ps (defScope st0)) (hl : ∀ a, (args a).length = ps.length)
    (h : ∀ (cdv : Value), PySem.W.codeIn K cdv qual = true → ∀ (A : Around) (outer : List Env) (s : Shared) (H : Hp) (E : XK), Room k (A.deeper (envOfC qual (defScope st0) s.heap.objs.size f cdv)) →
      ∃ t, PSs (cxOf CX0 P w K mg base N qual (defScope st0) f cdv A outer s H E).nox (defBody st0) t ∧ ∀ a st, pre st a → Ws K (cW E) t (startE N (args a)) st (postP st (res a))) :
    FnOk P w K mg base CX0 (k + 1) f fd ps (spQ K args pre res) := by
  refine fn_okC F S (fun vs H Q E ⟨a, G, ρ, _, _, hv, _⟩ => by rw [its_len hv, hl]) (fun cdv hc A outer s H vs Q E hr hsp => ?_)
  obtain ⟨⟨st, a⟩, G, ρ, hp, Sa, hv, q⟩ := hsp
  obtain ⟨t, ht, hw⟩ := h cdv hc A outer s H E hr
  have ok : okSt st = true := okSt_of Sa
  have D := dk_fn (by rw [Sa.len]; exact Nat.le_refl _) q
  refine ⟨t, ht, (hw a st hp).run Sa (se_start hv) ⟨fun G' H' ρ' σ' es' s hn m S' T' => ?_, fun _ _ _ _ _ _ z => z.elim, fun _ _ _ _ _ _ z => z.elim, fun v G' H' ρ' r s hn m S' hv' => ?_, fun _ _ _ _ _ _ _ z => z.elim⟩⟩
  · obtain ⟨ex, e, z⟩ := hn
    exact D.nx G' H' ρ' σ' es' s ⟨ex, e, ok, z⟩ m S' T'
  · obtain ⟨ex, e, z⟩ := hn
    exact D.rt v G' H' ρ' r s ⟨ex, e, ok, z⟩ m S' hv'
end
/-! ### a set of places, an object of the store -/
def kI (p : QQ) : List Int := [p.1, p.2]
theorem kI_inj {p q : QQ} (h : kI p = kI q) : p = q := by
  unfold kI at h
  simp at h
  exact Prod.ext h.1 h.2
theorem kI_mem {p : QQ} {S : List QQ} : kI p ∈ S.map kI ↔ p ∈ S := ⟨fun h => by
  obtain ⟨q, hq, e⟩ := List.mem_map.mp h
  exact kI_inj e ▸ hq, List.mem_map_of_mem⟩
def xoT (K : PySem.W.Frag) (P : Program) (w : World) (S : List QQ) : Xo where
  φ := fun G p o => ∃ L : List (Addr × List Int), o = SetTO P w p L ∧ (∀ z ∈ L, Dq K G (.ref z.1) (Pu.tupD z.2)) ∧ (L.map (·.2)).Perm (S.map kI)
  up := fun {G G' p o} e h => by
    obtain ⟨L, a, b, c⟩ := h
    exact ⟨L, a, fun z hz => (b z hz).up e, c⟩
  no := fun ⟨L, a, _, _⟩ => by
    subst a
    exact ⟨True.intro, fun q z => nomatch z⟩
section
variable {K : PySem.W.Frag} {P : Program} {w : World} {es : Es} {st st1 st2 st3 : List Ob} {ta tb te : TE} {W : WE} {PP : Post}
theorem upd_upd {H : Hp} {p : Addr} {a b : HO} : upd (upd H p a) p b = upd H p b := by
  funext x
  by_cases h : x = p
  · rw [h, upd_same, upd_same]
  · rw [upd_ne h, upd_ne h, upd_ne h]
/-- {place} -/
theorem ev_setV {j : Nat} {p : QQ} (hj : es[j]? = some (.dat (Pl.pD p))) : Ev K (Pm.tSetT1 K P w (tVar j)) es st st (.fr (.ext (xoT K P w [p]))) := .mk fun {G H ρ σ} S T {Q} q D hD => by
  obtain ⟨v, hv, hd⟩ := T.ent j _ hj
  have hd : Dq K G v (Pu.tupD (kI p)) := hd
  obtain ⟨t, rfl⟩ : ∃ t, v = .ref t := by
    cases hd with
    | tup _ _ _ => exact ⟨_, rfl⟩
  obtain ⟨S1, m1⟩ := S.priv (o := SetTO P w D [(t, kI p)]) True.intro hD
  refine ⟨_, hv, t, kI p, rfl, upd_same, Evl.ex_t (S.ex.trans (Evl.Ex.new hD)) (dq_sqt hd), ?_⟩
  rw [upd_upd]
  refine q _ _ _ _ m1 S1 ⟨D, rfl, hD, fresh_back S.ex hD, fun z => ?_, ⟨_, upd_same⟩, fun q z => ?_, _, upd_same, [(t, kI p)], rfl, fun z hz => ?_, List.Perm.refl _⟩
  · obtain ⟨_, u, hu⟩ := S.pr D z
    rw [hD] at hu
    cases hu
  · rw [upd_same] at z
    cases z
  · rw [List.mem_singleton.mp hz]
    exact hd
/-- a place looked for -/
theorem ev_inT {b : Bool} {i : Nat} {p : QQ} {S : List QQ} (ha : Ev K ta es st st1 (.dat (Pl.pD p))) (hb : Ev K tb es st1 st2 (.ob i)) (hi : st2[i]? = some (.ext (xoT K P w S))) : Ev K (tOp (Pm.rInT b K P w) ta tb) es st st2 (.dat (.bool (decide (p ∈ S) != b))) := .mk fun {G H ρ σ} Sa T {Q} q =>
  ha.run Sa T fun v G1 H1 ρ1 m1 S1 hv => hb.run S1 (T.mv m1) fun u G2 H2 ρ2 m2 S2 hu => by
    obtain ⟨D, rfl, hr⟩ := hu
    obtain ⟨o, ho, L, rfl, hL, pm⟩ := S2.ob i _ D hi hr
    have hv : Dq K G1 v (Pu.tupD (kI p)) := hv
    obtain ⟨t, rfl⟩ : ∃ t, v = .ref t := by
      cases hv with
      | tup _ _ _ => exact ⟨_, rfl⟩
    have e : decide (kI p ∈ L.map (·.2)) = decide (p ∈ S) := decide_eq_decide.mpr (by rw [pm.mem_iff, kI_mem])
    refine ⟨D, t, L, kI p, rfl, rfl, ho, fun z hz => Evl.ex_t S2.ex (dq_sqt (hL z hz)), Evl.ex_t (m2.ex.trans S2.ex) (dq_sqt hv), ?_⟩
    rw [e]
    exact q _ _ _ _ (m1.trans m2) S2 (Dq.bl _)
/-- one more place -/
theorem w_addT {i : Nat} {p : QQ} {S : List QQ} (h0 : Ev K ta es st st1 (.ob i)) (h1 : ∃ S0, st1[i]? = some (.ext (xoT K P w S0))) (h : Ev K te es st1 st2 (.dat (Pl.pD p))) (hi : st2[i]? = some (.ext (xoT K P w S))) (few : S.length + 1 < 64) (new : p ∉ S)
    (hn : PP.nx es (st2.set i (.ext (xoT K P w (S ++ [p]))))) : Ws K W (tDrop (Pm.tSAdd K P w ta (tCons te tNil))) es st PP := .mk fun {G H ρ σ D} Sa T kk =>
  h0.run Sa T fun u G1 H1 ρ1 m1 S1 hu => by
    obtain ⟨D, rfl, hr⟩ := hu
    obtain ⟨S0, h1⟩ := h1
    obtain ⟨o, ho, L0, rfl, _, _⟩ := S1.ob i _ D h1 hr
    refine ⟨⟨D, L0, rfl, ho⟩, h.run S1 (T.mv m1) fun v G2 H2 ρ2 m2 S2 hv => ?_⟩
    have hr2 := pre_get m2.pre hr
    obtain ⟨o, ho, L, rfl, hL, pm⟩ := S2.ob i _ D hi hr2
    have hv : Dq K G2 v (Pu.tupD (kI p)) := hv
    obtain ⟨t, rfl⟩ : ∃ t, v = .ref t := by
      cases hv with
      | tup _ _ _ => exact ⟨_, rfl⟩
    have ln : L.length = S.length := by
      have := pm.length_eq
      rwa [List.length_map, List.length_map] at this
    refine ⟨D, t, L, kI p, rfl, rfl, ho, fun z hz => Evl.ex_t S2.ex (dq_sqt (hL z hz)), Evl.ex_t S2.ex (dq_sqt hv), by omega, fun L' _ c2 => ?_⟩
    have pm' := c2 fun z => new (kI_mem.mp (pm.mem_iff.mp z))
    have k1 : ∀ z ∈ L', Dq K G2 (.ref z.1) (Pu.tupD z.2) := fun z hz => by
      rcases List.mem_cons.mp (pm'.mem_iff.mp hz) with rfl | hz
      · exact hv
      · exact hL z hz
    have k2 : (L'.map (·.2)).Perm ((S ++ [p]).map kI) := by
      refine (pm'.map (·.2)).trans ?_
      rw [List.map_append]
      exact (List.Perm.cons _ pm).trans (List.perm_append_comm (l₁ := [kI p]))
    obtain ⟨S3, m3⟩ := S2.set (u := SetTO P w D L') (o := .ext (xoT K P w (S ++ [p]))) hr2 True.intro (fun q z => by rw [ho] at z; cases z) ⟨_, upd_same, L', rfl, k1, k2⟩
    exact kk.nx _ _ _ _ _ _ hn ((m1.trans m2).trans m3) S3 (((T.mv m1).mv m2).mv m3)
/-- sorted(found) -/
theorem ev_sortX {i : Nat} {S R : List QQ} (h : Ev K te es st st1 (.ob i)) (hi : st1[i]? = some (.ext (xoT K P w S))) (hp : ∀ p ∈ S, Pu.Pr2 (kI p)) (hR : (R.map kI).Pairwise (fun a b => Pu.rk2 a < Pu.rk2 b)) (hk : ∀ p, p ∈ R ↔ p ∈ S) :
    Ev K (tCB (Pu.rSortP K P w) (tCons te tNil)) es st st1 (.fr (.lst ((plD R).map It.dat))) := by
  have e : (plD R).map It.dat = ((R.map kI).map Pu.tupD).map It.dat := by
    unfold plD
    rw [List.map_map (g := Pu.tupD)]
    rfl
  rw [e]
  refine ev_sortP (ks := fun k => k ∈ S.map kI) (R.map kI) (.mk fun {G H ρ σ} Sa T {Q} q => h.run Sa T fun v G1 H1 ρ1 m1 S1 hv => ?_) (fun k hk => ?_) hR fun k => ?_
  · obtain ⟨D, rfl, hr⟩ := hv
    obtain ⟨o, ho, L, rfl, hL, pm⟩ := S1.ob i _ D hi hr
    exact q D L G1 H1 ρ1 m1 S1 ho hL fun {k} => pm.mem_iff
  · obtain ⟨p, hq, rfl⟩ := List.mem_map.mp hk
    exact hp p hq
  · constructor
    · intro z
      obtain ⟨p, hq, rfl⟩ := List.mem_map.mp z
      exact kI_mem.mpr ((hk p).mp hq)
    · intro z
      obtain ⟨p, hq, rfl⟩ := List.mem_map.mp z
      exact kI_mem.mpr ((hk p).mpr hq)
/-! a place among the places of a list -/
theorem eqv_pD (p q : QQ) : PyData.eqv (Pl.pD q) (Pl.pD p) = decide (q = p) := by
  have e : PyData.eqv (Pl.pD q) (Pl.pD p) = decide (q.1 = p.1 ∧ q.2 = p.2) := by
    simp [Pl.pD, PyData.eqv, PyData.eqvAll]
    rfl
  rw [e]
  exact decide_eq_decide.mpr ⟨fun h => Prod.ext h.1 h.2, fun h => by rw [h]; exact ⟨rfl, rfl⟩⟩
theorem any_pD (V : List QQ) (p : QQ) : ((plD V).any fun z => PyData.eqv z (Pl.pD p)) = decide (p ∈ V) := by
  induction V with
  | nil => rfl
  | cons a V ih =>
    show (PyData.eqv (Pl.pD a) (Pl.pD p) || (plD V).any fun z => PyData.eqv z (Pl.pD p)) = _
    rw [ih, eqv_pD]
    by_cases h : a = p
    · subst h
      rw [decide_eq_true rfl, decide_eq_true List.mem_cons_self]
      rfl
    · rw [decide_eq_false h, Bool.false_or]
      exact decide_eq_decide.mpr ⟨List.mem_cons_of_mem _, fun y => (List.mem_cons.mp y).elim (fun e => absurd e.symm h) id⟩
theorem shaped_pD (p : QQ) : SeqAt.shaped (Pl.pD p) = true := rfl
theorem ev_inL {p : QQ} {V : List QQ} (ha : Ev K ta es st st1 (.dat (Pl.pD p))) (hb : Ev K tb es st1 st2 (.dat (.list (plD V)))) : Ev K (tOp (rInD K) ta tb) es st st2 (.dat (.bool (decide (p ∈ V)))) :=
  ev_op2 ha hb fun u v G H ρ e hu hv Q q => ⟨_, _, (Dq.dp hu).up e, (Dq.dp hv).up e, shaped_pD p, pl_shaped V, by rw [any_pD]; exact q _ fun G => Dq.bl _⟩
theorem ev_notInL {p : QQ} {V : List QQ} (ha : Ev K ta es st st1 (.dat (Pl.pD p))) (hb : Ev K tb es st1 st2 (.dat (.list (plD V)))) : Ev K (tOp (rNotInD K) ta tb) es st st2 (.dat (.bool (!decide (p ∈ V)))) :=
  ev_op2 ha hb fun u v G H ρ e hu hv Q q => ⟨_, _, (Dq.dp hu).up e, (Dq.dp hv).up e, shaped_pD p, pl_shaped V, by rw [any_pD]; exact q _ fun G => Dq.bl _⟩
/-! a list, held by the store or handed on -/
def LsAt (x : Pv.It) (ds : List PyData) (s : List Ob) : Prop := x = .dat (.list ds) ∨ ∃ i, x = .ob i ∧ s[i]? = some (.lst (ds.map Pv.It.dat))
variable {x : Pv.It} {ds : List PyData} {j : Nat}
theorem lx_L (h : LsAt x ds st) (hj : es[j]? = some (.it x)) : EvL K (tVar j) es st st (ds.map Pv.It.dat) := by
  rcases h with rfl | ⟨i, rfl, hi⟩
  · exact el_dat (ev_var hj)
  · exact el_ob (ev_var hj) hi
theorem lx_walk (h : LsAt x ds st) (hj : es[j]? = some (.it x)) : ∃ ok : List Ob → Prop, ok st ∧ EvI K (iList K (tVar j)) es st st ok (ds.map Pv.It.dat) := by
  rcases h with rfl | ⟨i, rfl, hi⟩
  · exact ⟨_, True.intro, ei_list (ev_var hj)⟩
  · exact ⟨_, hi, ei_ob (ev_var hj) hi⟩
theorem ev_eqOb {k : Nat} {d2 : List PyData} (ha : Ev K ta es st st1 (.ob k)) (hb : Ev K tb es st1 st2 (.dat (.list d2))) (hk : st2[k]? = some (.lst (ds.map Pv.It.dat))) (s1 : SeqAt.shaped (.list ds) = true) (s2 : SeqAt.shaped (.list d2) = true) :
    Ev K (tOp (rEqD K) ta tb) es st st2 (.dat (.bool (PyData.eqv (.list ds) (.list d2)))) := .mk fun {G H ρ σ} Sa T {Q} q =>
  ha.run Sa T fun v G1 H1 ρ1 m1 S1 hv => hb.run S1 (T.mv m1) fun u G2 H2 ρ2 m2 S2 hu => by
    obtain ⟨p, rfl, hr⟩ := hv
    obtain ⟨vs, hp, hx⟩ := S2.ob k _ p hk (pre_get m2.pre hr)
    exact ⟨_, _, .lst (.inl (.inl hp)) (dqa_dp _ _ ((dqa_its hx).up S2.ex)), (Dq.dp hu).up S2.ex, s1, s2, q _ _ _ _ (m1.trans m2) S2 (Dq.bl _)⟩
theorem ev_neOb {k : Nat} {d2 : List PyData} (ha : Ev K ta es st st1 (.ob k)) (hb : Ev K tb es st1 st2 (.dat (.list d2))) (hk : st2[k]? = some (.lst (ds.map Pv.It.dat))) (s1 : SeqAt.shaped (.list ds) = true) (s2 : SeqAt.shaped (.list d2) = true) :
    Ev K (tOp (rNeD K) ta tb) es st st2 (.dat (.bool (!PyData.eqv (.list ds) (.list d2)))) := .mk fun {G H ρ σ} Sa T {Q} q =>
  ha.run Sa T fun v G1 H1 ρ1 m1 S1 hv => hb.run S1 (T.mv m1) fun u G2 H2 ρ2 m2 S2 hu => by
    obtain ⟨p, rfl, hr⟩ := hv
    obtain ⟨vs, hp, hx⟩ := S2.ob k _ p hk (pre_get m2.pre hr)
    exact ⟨_, _, .lst (.inl (.inl hp)) (dqa_dp _ _ ((dqa_its hx).up S2.ex)), (Dq.dp hu).up S2.ex, s1, s2, q _ _ _ _ (m1.trans m2) S2 (Dq.bl _)⟩
theorem lx_eq {d2 : List PyData} (h : LsAt x ds st1) (hj : es[j]? = some (.it x)) (hb : Ev K tb es st st1 (.dat (.list d2))) (s1 : SeqAt.shaped (.list ds) = true) (s2 : SeqAt.shaped (.list d2) = true) :
    Ev K (tOp (rEqD K) (tVar j) tb) es st st1 (.dat (.bool (PyData.eqv (.list ds) (.list d2)))) := by
  rcases h with rfl | ⟨i, rfl, hi⟩
  · exact ev_eqD (ev_var hj) hb s1 s2
  · exact ev_eqOb (ev_var hj) hb hi s1 s2
/-! set(places) -/
theorem its_keys {G : Hp} {ρ : List Addr} : ∀ {S : List QQ} {vs : List V}, Its K G ρ vs ((plD S).map Pv.It.dat) → ∃ ks : List (Addr × List Int), vs = ks.map (fun p => V.ref p.1) ∧ ks.map (·.2) = S.map kI ∧ ∀ z ∈ ks, Dq K G (.ref z.1) (Pu.tupD z.2)
  | [], vs, h => by
    cases h
    exact ⟨[], rfl, rfl, fun z hz => nomatch hz⟩
  | p :: S, vs, h => by
    cases h with
    | @cons v _ vs _ h1 h2 =>
      obtain ⟨ks, e1, e2, e3⟩ := its_keys (S := S) h2
      have h1 : Dq K G v (Pu.tupD (kI p)) := h1
      obtain ⟨t, rfl⟩ : ∃ t, v = .ref t := by
        cases h1 with
        | tup _ _ _ => exact ⟨_, rfl⟩
      refine ⟨(t, kI p) :: ks, by rw [e1]; rfl, by rw [List.map_cons, e2]; rfl, fun z hz => ?_⟩
      rcases List.mem_cons.mp hz with rfl | hz
      · exact h1
      · exact e3 z hz
theorem kI_nodup {S : List QQ} (h : S.Nodup) : (S.map kI).Nodup := List.pairwise_map.mpr (h.imp fun h e => h (kI_inj e))
theorem ev_setOf {S : List QQ} (h : EvL K te es st st1 ((plD S).map Pv.It.dat)) (nd : S.Nodup) (few : S.length < 64) : Ev K (tCB (Pm.rSetOfN K P w) (tCons te tNil)) es st st1 (.fr (.ext (xoT K P w S))) := .mk fun {G H ρ σ} Sa T {Q} q =>
  h.run Sa T fun p vs G1 H1 ρ1 m1 S1 hs hx => by
    obtain ⟨ks, e1, e2, e3⟩ := its_keys hx
    have ln : ks.length = S.length := by
      have := congrArg List.length e2
      rwa [List.length_map, List.length_map] at this
    refine ⟨p, ks, rfl, by rw [← e1]; exact hs, fun z hz => Evl.ex_t S1.ex (dq_sqt (e3 z hz)), by omega, fun a L ha nL h1 h2 => ?_⟩
    obtain ⟨S2, m2⟩ := S1.priv (o := SetTO P w a L) True.intro ha
    refine q _ _ _ _ (m1.trans m2) S2 ⟨a, rfl, h0_of m1 ha, fresh_back S1.ex ha, fun z => ?_, ⟨_, upd_same⟩, fun q z => ?_, _, upd_same, L, rfl, fun z hz => e3 z (h1 z hz), ?_⟩
    · obtain ⟨_, u, hu⟩ := S1.pr a z
      rw [ha] at hu
      cases hu
    · rw [upd_same] at z
      cases z
    · refine (List.perm_ext_iff_of_nodup nL (kI_nodup nd)).mpr fun k => ⟨fun z => ?_, fun z => ?_⟩
      · rw [← e2]
        obtain ⟨y, hy, rfl⟩ := List.mem_map.mp z
        exact List.mem_map_of_mem (h1 y hy)
      · rw [← e2] at z
        obtain ⟨y, hy, rfl⟩ := List.mem_map.mp z
        exact h2 y hy
/-! lists of places that the store holds: looked into, an index -/
theorem ev_notInOb {k : Nat} {p : QQ} {V : List QQ} (ha : Ev K ta es st st1 (.dat (Pl.pD p))) (hb : Ev K tb es st1 st2 (.ob k)) (hk : st2[k]? = some (.lst (pls V))) : Ev K (tOp (rNotInD K) ta tb) es st st2 (.dat (.bool (!decide (p ∈ V)))) := .mk fun {G H ρ σ} Sa T {Q} q =>
  ha.run Sa T fun u G1 H1 ρ1 m1 S1 hu => hb.run S1 (T.mv m1) fun v G2 H2 ρ2 m2 S2 hv => by
    obtain ⟨a, rfl, hr⟩ := hv
    obtain ⟨vs, hp, hx⟩ := S2.ob k _ a hk hr
    rw [pls_dats] at hx
    exact ⟨_, _, (Dq.dp (Dq.up (show Dq K G1 u (Pl.pD p) from hu) m2.ex)).up S2.ex, .lst (.inl (.inl hp)) (dqa_dp _ _ ((dqa_its hx).up S2.ex)), shaped_pD p, pl_shaped V, by rw [any_pD]; exact q _ _ _ _ (m1.trans m2) S2 (Dq.bl _)⟩
theorem ev_indexOb {k i : Nat} {p : QQ} {V : List QQ} (ha : Ev K ta es st st1 (.ob k)) (h1 : ∃ ys, st1[k]? = some (.lst ys)) (hb : Ev K tb es st1 st2 (.dat (Pl.pD p))) (hk : st2[k]? = some (.lst (pls V))) (hi : V[i]? = some p) (hn : ∀ m q, m < i → V[m]? = some q → q ≠ p) :
    Ev K (tBM K "list" (rIndexD K) ta (tCons tb tNil)) es st st2 (.dat (.int ((i : Nat) : Int))) := .mk fun {G H ρ σ} Sa T {Q} q =>
  ha.run Sa T fun u G1 H1 ρ1 m1 S1 hu => by
    obtain ⟨a, rfl, hr⟩ := hu
    obtain ⟨ys, hy⟩ := h1
    obtain ⟨us, hp1, _⟩ := S1.ob k _ a hy hr
    refine ⟨.inl ⟨rfl, us, .inl (.inl hp1)⟩, hb.run S1 (T.mv m1) fun v G2 H2 ρ2 m2 S2 hv => ?_⟩
    obtain ⟨vs, hp, hx⟩ := S2.ob k _ a hk (pre_get m2.pre hr)
    rw [pls_dats] at hx
    have at' : ∀ {m : Nat} {z : PyData}, (plD V)[m]? = some z → ∃ r, V[m]? = some r ∧ z = Pl.pD r := fun {m z} h => by
      unfold plD at h
      rw [List.getElem?_map] at h
      obtain ⟨r, h1, h2⟩ := Option.map_eq_some_iff.mp h
      exact ⟨r, h1, h2.symm⟩
    refine ⟨a, v, _, _, i, Pl.pD p, rfl, rfl, .lst (.inl (.inl hp)) (dqa_dp _ _ ((dqa_its hx).up S2.ex)), (Dq.dp hv).up S2.ex, pl_shaped V, shaped_pD p, ?_, by rw [eqv_pD, decide_eq_true rfl], fun m z hm hz => ?_, q _ _ _ _ (m1.trans m2) S2 (Dq.int _)⟩
    · unfold plD
      rw [List.getElem?_map, hi]
      rfl
    · obtain ⟨r, h1, rfl⟩ := at' hz
      rw [eqv_pD, decide_eq_false (hn m r hm h1)]
/-! a place taken out of a dict -/
def dropM (m : List (QQ × Pv.It)) (p : QQ) : List (QQ × Pv.It) := m.filter fun b => decide (b.1 ≠ p)
theorem drop_at {G : Hp} {ρ : List Addr} {kvs : List (List L2.Key × V)} {m : List (QQ × Pv.It)} {p : QQ} (h : Paired (fun (a : List L2.Key × V) (b : QQ × Pv.It) => a.1 = pk b.1 ∧ ItAt K G ρ a.2 b.2) kvs m) :
    Paired (fun (a : List L2.Key × V) (b : QQ × Pv.It) => a.1 = pk b.1 ∧ ItAt K G ρ a.2 b.2) (dropK kvs (pk p)) (dropM m p) := by
  induction h with
  | nil => exact .nil
  | @cons a b l r hab t ih =>
    unfold dropK dropM at ih ⊢
    by_cases z : b.1 = p
    · rw [List.filter_cons, List.filter_cons, if_neg (by rw [hab.1, z]; simp), if_neg (by simp [z])]
      exact ih
    · have z2 : a.1 ≠ pk p := fun q => z (pk_inj (hab.1.symm.trans q))
      rw [List.filter_cons, List.filter_cons, if_pos (decide_eq_true z2), if_pos (decide_eq_true (show b.1 ≠ p from z))]
      exact .cons hab ih
theorem w_popD {k : Nat} {p : QQ} {m : List (QQ × Pv.It)} {x : Pv.It} (h0 : Ev K ta es st st1 (.ob k)) (h01 : ∃ m0, st1[k]? = some (.dic m0)) (h : Ev K tb es st1 st2 (.dat (.tuple [.int p.1, .int p.2]))) (hk : st2[k]? = some (.dic m)) (hx : m.lookup p = some x)
    (hn : PP.nx es (st2.set k (.dic (dropM m p)))) : Ws K W (tDrop (tBM K "dict" Pm.rTakeT ta (tCons tb tNil))) es st PP := .mk fun {G H ρ σ D} Sa T kk =>
  h0.run Sa T fun u G1 H1 ρ1 m1 S1 hu => by
    obtain ⟨a, rfl, hr⟩ := hu
    obtain ⟨m0, hm0⟩ := h01
    obtain ⟨kvs0, hp0, _⟩ := S1.ob k _ a hm0 hr
    refine ⟨.inr (.inr (.inl ⟨rfl, .inr ⟨kvs0, hp0⟩⟩)), h.run S1 (T.mv m1) fun y G2 H2 ρ2 m2 S2 hy => ?_⟩
    have hr2 := pre_get m2.pre hr
    obtain ⟨kvs, hp, hkv⟩ := S2.ob k _ a hk hr2
    obtain ⟨b, rfl, hb⟩ := key_at hy
    rcases val_at hkv p with ⟨e, _⟩ | ⟨x', v, e1, e2, _⟩
    · rw [hx] at e
      cases e
    · refine ⟨a, b, kvs, pk p, v, rfl, rfl, hp, S2.ex _ _ hb, e2, ?_⟩
      obtain ⟨S3, m3⟩ := S2.set (u := .dT (dropK kvs (pk p))) (o := .dic (dropM m p)) hr2 True.intro (fun q z => by rw [hp] at z; cases z) ⟨_, upd_same, drop_at hkv⟩
      exact kk.nx _ _ _ _ _ _ hn ((m1.trans m2).trans m3) S3 (((T.mv m1).mv m2).mv m3)
end
end Pq

/-! lists of objects: a comprehension that leaves something in the store, lists of lists that are held -/
namespace Pq
open PySem PySem.Spec L2 Pr Pl Pv
open PyProof.Rows (envOfC)
open Evl (sz_lt sz_of)
section
variable {P : Program} {w : World} {K : PySem.W.Frag} {mg : Str → Option Value} {base : Heap}
/-- two promises of a def -/
theorem fn_or {CX : CXT} {k : Nat} {f : Addr} {fd : FuncData} {ps : List Str} {sp sp' : Sp} (h : FnOk P w K mg base CX k f fd ps sp) (h' : FnOk P w K mg base CX k f fd ps sp') : FnOk P w K mg base CX k f fd ps (fun vs H Q E => sp vs H Q E ∨ sp' vs H Q E) :=
  ⟨fun vs H Q E z => z.elim (h.len vs H Q E) (h'.len vs H Q E), fun A outer s H args us vs Q E hr he hb hv z => z.elim (h.run A outer s H args us vs Q E hr he hb hv) (h'.run A outer s H args us vs Q E hr he hb hv)⟩
end
section
variable {K : PySem.W.Frag} {es : Es} {st st1 st2 st3 : List Ob} {ta tb te : TE} {W : WE} {PP : Post} {r : Rv}
theorem ev_orL {sp sp' : Sp} {E : XK} {ts : TA} (h : Ev K (tCall sp [] E ts) es st st1 r) (hm : ∀ {σ H} {R R' : List V → Hp → Prop}, (∀ vs H', R vs H' → R' vs H') → ts σ H R → ts σ H R') : Ev K (tCall (fun vs H Q E => sp vs H Q E ∨ sp' vs H Q E) [] E ts) es st st1 r := .mk fun {G H ρ σ} S T {Q} q => hm (fun _ _ z => .inl z) (h.run S T q)
theorem ev_orR {sp sp' : Sp} {E : XK} {ts : TA} (h : Ev K (tCall sp' [] E ts) es st st1 r) (hm : ∀ {σ H} {R R' : List V → Hp → Prop}, (∀ vs H', R vs H' → R' vs H') → ts σ H R → ts σ H R') : Ev K (tCall (fun vs H Q E => sp vs H Q E ∨ sp' vs H Q E) [] E ts) es st st1 r := .mk fun {G H ρ σ} S T {Q} q => hm (fun _ _ z => .inr z) (h.run S T q)
/-- what is built, of things -/
structure BldI (K : PySem.W.Frag) (G1 H1 : Hp) (ρ1 : List Addr) (D : Addr) (st : List Ob) (H : Hp) (xs : List Pv.It) : Prop where
  at' : ∃ G ρ, Mv G1 H1 ρ1 G H ρ ∧ Sh K G H ρ st ∧ G D = none ∧ D ∉ ρ ∧ ∃ acc, H D = some (.lst acc) ∧ Its K G ρ acc xs
/-- a list comprehension, each item of which may leave something in the store -/
theorem ev_lcS {α : Type} {wi : TI} {j : Nat} {vs : List Nat} {ok : List Ob → Prop} {as : List α} {enc : α → Pv.It} (sf : Nat → List Ob) (x : Nat → Pv.It) (h : EvI K wi es st (sf 0) ok (as.map enc)) (hok : ∀ i, i ≤ as.length → ok (sf i)) (hz : as.length ≤ 50000) (hj : ∀ σ x, wipe ((wipe σ vs).set j x) vs = wipe σ vs)
    (he : ∀ i a, as[i]? = some a → Ev K te ((wipeE es vs).set j (.it (enc a))) (sf i) (sf (i + 1)) (.it (x i))) : Ev K (tLc wi (gName j) tYes te vs) es st (sf as.length) (.fr (.lst ((List.range as.length).map x))) := .mk fun {G H ρ σ} S T {Q} q =>
  h.run S T fun J G1 H1 ρ1 m1 S1 hJ D hD => by
    have la : (as.map enc).length = as.length := List.length_map _
    obtain ⟨S1', m1'⟩ := S1.priv (o := .lst []) True.intro hD
    have nD : D ∉ ρ1 := fun z => by
      obtain ⟨_, u, hu⟩ := S1.pr D z
      rw [hD] at hu
      cases hu
    refine ⟨fun i m H' => m = as.length - i ∧ i ≤ as.length ∧ BldI K G1 H1 ρ1 D (sf i) H' ((List.range i).map x), ⟨as.length, by simp, Nat.zero_le _, G1, ρ1, m1', S1', fresh_back S1.ex hD, nD, [], upd_same, .nil⟩, ?_⟩
    rintro i m H' ⟨rfl, hi, G', ρ', mm, S', gD, nD', acc, ha, hda⟩
    by_cases hlt : i < as.length
    · refine .inr ⟨hJ.go xNo i _ _ _ (sf i) old_no mm.mw S' (hok i hi) (by rw [la]; exact hlt), fun H' => i + 1 ≤ as.length ∧ BldI K G1 H1 ρ1 D (sf (i + 1)) H' ((List.range (i + 1)).map x), fun H3 w => ⟨as.length - (i + 1), by omega, rfl, w⟩, fun v H3 y => ?_⟩
      obtain ⟨rfl, x', hxi, hx⟩ := hJ.yld xNo i v _ _ _ _ (sf i) old_no mm.mw S' (hok i hi) (by rw [la]; exact hlt) y
      rw [List.getElem?_map] at hxi
      obtain ⟨a, hai, rfl⟩ := Option.map_eq_some_iff.mp hxi
      have T' := ((T.mv (m1.trans mm)).wipe vs).put j (v := some v) (e := .it (enc a)) ⟨v, rfl, hx⟩
      have lacc : acc.length = i := by
        have l := its_len hda
        rwa [List.length_map, List.length_range] at l
      refine ⟨hj σ (some v), ?_⟩
      rw [Pu.tYes_at, if_pos rfl]
      refine (he i a hai).run S' T' fun z G5 H5 ρ5 m5 S5 hz' => ?_
      obtain ⟨a5, g5, n5⟩ := m5.fm D _ ha gD nD'
      refine ⟨acc, a5, sz_lt (by omega), hlt, G5, ρ5, (mm.trans m5).poke hD a5, S5.poke g5 n5 a5 (fun q z => nomatch z) True.intro, g5, n5, acc ++ [z], upd_same, ?_⟩
      rw [List.range_succ, List.map_append]
      exact Paired.snoc (hda.up m5.ex m5.pre) hz'
    · have e : i = as.length := by omega
      subst e
      exact .inl ⟨by rw [← la]; exact hJ.stop xNo _ _ _ _ old_no mm.mw S' (hok _ (Nat.le_refl _)), q _ G' H' ρ' (m1.trans mm) S' ⟨D, rfl, m1.al D hD, gD, nD', ⟨_, ha⟩, (fun q z => by rw [ha] at z; cases z), acc, ha, hda⟩⟩
/-! a list of lists that the store holds, as data -/
def Flat (s : List Ob) (x : Pv.It) (d : PyData) : Prop := x = .dat d ∨ ∃ k ds, x = .ob k ∧ s[k]? = some (.lst (ds.map Pv.It.dat)) ∧ d = .list ds
theorem flat_dp {G H : Hp} {ρ : List Addr} (S : Sh K G H ρ st) : ∀ {vs : List V} {xs : List Pv.It} {ds : List PyData}, Its K G ρ vs xs → Paired (Flat st) xs ds → DpAll K H vs ds
  | _, _, _, .nil, .nil => .nil
  | _, _, _, .cons hv t, .cons hf tf => by
    refine .cons ?_ (flat_dp S t tf)
    rcases hf with rfl | ⟨k, ds, rfl, hk, rfl⟩
    · exact (Dq.dp hv).up S.ex
    · obtain ⟨p, rfl, hr⟩ := hv
      obtain ⟨us, hp, hx⟩ := S.ob k _ p hk hr
      exact .lst (.inl (.inl hp)) (dqa_dp _ _ ((dqa_its hx).up S.ex))
theorem ev_eqTree {k : Nat} {xs : List Pv.It} {ds d2 : List PyData} (ha : Ev K ta es st st1 (.ob k)) (hb : Ev K tb es st1 st2 (.dat (.list d2))) (hk : st2[k]? = some (.lst xs)) (hf : Paired (Flat st2) xs ds) (s1 : SeqAt.shaped (.list ds) = true) (s2 : SeqAt.shaped (.list d2) = true) :
    Ev K (tOp (rEqD K) ta tb) es st st2 (.dat (.bool (PyData.eqv (.list ds) (.list d2)))) := .mk fun {G H ρ σ} Sa T {Q} q =>
  ha.run Sa T fun v G1 H1 ρ1 m1 S1 hv => hb.run S1 (T.mv m1) fun u G2 H2 ρ2 m2 S2 hu => by
    obtain ⟨p, rfl, hr⟩ := hv
    obtain ⟨vs, hp, hx⟩ := S2.ob k _ p hk (pre_get m2.pre hr)
    exact ⟨_, _, .lst (.inl (.inl hp)) (flat_dp S2 hx hf), (Dq.dp hu).up S2.ex, s1, s2, q _ _ _ _ (m1.trans m2) S2 (Dq.bl _)⟩
/-- lists of numbers and of None -/
theorem rows_shaped (L : List (List PyData)) (h : ∀ r ∈ L, ∀ d ∈ r, d = .none ∨ ∃ i, d = .int i) : SeqAt.shaped (.list (L.map PyData.list)) = true := by
  have row : ∀ r : List PyData, (∀ d ∈ r, d = .none ∨ ∃ i, d = .int i) → PyData.canLayAll0 r = true ∧ PyData.depthAll r = 0 := by
    intro r hr
    induction r with
    | nil => exact ⟨rfl, rfl⟩
    | cons d r ih =>
      obtain ⟨a, b⟩ := ih fun x hx => hr x (List.mem_cons_of_mem _ hx)
      have cd : PyData.canLay0 d = true ∧ PyData.depth d = 0 := by
        rcases hr d List.mem_cons_self with rfl | ⟨i, rfl⟩ <;> exact ⟨rfl, rfl⟩
      refine ⟨?_, ?_⟩
      · show (PyData.canLay0 d && PyData.canLayAll0 r) = true
        rw [cd.1, a]
        rfl
      · show max (PyData.depth d) (PyData.depthAll r) = 0
        rw [cd.2, b]
        rfl
  have tab : ∀ L : List (List PyData), (∀ r ∈ L, ∀ d ∈ r, d = .none ∨ ∃ i, d = .int i) → PyData.canLayAll0 (L.map PyData.list) = true ∧ PyData.depthAll (L.map PyData.list) ≤ 1 := by
    intro L hL
    induction L with
    | nil => exact ⟨rfl, Nat.zero_le _⟩
    | cons r L ih =>
      obtain ⟨a, b⟩ := ih fun x hx => hL x (List.mem_cons_of_mem _ hx)
      obtain ⟨c, e⟩ := row r (hL r List.mem_cons_self)
      refine ⟨?_, ?_⟩
      · show (PyData.canLayAll0 r && PyData.canLayAll0 (L.map PyData.list)) = true
        rw [c, a]
        rfl
      · show max (PyData.depthAll r + 1) (PyData.depthAll (L.map PyData.list)) ≤ 1
        rw [e]
        exact Nat.max_le.mpr ⟨Nat.le_refl _, b⟩
  obtain ⟨a, b⟩ := tab L h
  unfold SeqAt.shaped
  have e : PyData.canLay0 (.list (L.map PyData.list)) = true := a
  rw [e, Bool.true_and]
  refine decide_eq_true ?_
  show PyData.depthAll (L.map PyData.list) + 1 ≤ 64
  omega
/-! a list so many times; an or that goes on -/
theorem its_app {G : Hp} {ρ : List Addr} {vs us : List V} {xs ys : List Pv.It} (h : Its K G ρ vs xs) (h' : Its K G ρ us ys) : Its K G ρ (vs ++ us) (xs ++ ys) := by
  induction h with
  | nil => exact h'
  | cons a _ ih => exact .cons a ih
theorem its_rep {G : Hp} {ρ : List Addr} {vs : List V} {xs : List Pv.It} (h : Its K G ρ vs xs) : ∀ n, Its K G ρ (List.replicate n vs).flatten (List.replicate n xs).flatten
  | 0 => .nil
  | n + 1 => by
    rw [List.replicate_succ, List.replicate_succ, List.flatten_cons, List.flatten_cons]
    exact its_app h (its_rep h n)
theorem ev_rep {n : Nat} {xs : List Pv.It} (ha : Ev K ta es st st1 (.fr (.lst xs))) (hb : Ev K tb es st1 st2 (.dat (.int (n : Nat)))) (hz : xs.length * n ≤ 100000) (hn : n < 2 ^ 62) : Ev K (tOp rRep ta tb) es st st2 (.fr (.lst (List.replicate n xs).flatten)) := .mk fun {G H ρ σ} S T {Q} q =>
  ha.run S T fun v G1 H1 ρ1 m1 S1 ⟨p, e, h0, gp, np, hu, nw, vs, hp, hi⟩ => hb.run S1 (T.mv m1) fun u G2 H2 ρ2 m2 S2 hu => by
    subst e
    obtain ⟨hp2, _, _⟩ := m2.fm p _ hp gp np
    refine ⟨p, n, vs, rfl, dq_int hu, hp2, by omega, by omega, ?_, fun r hr => ?_⟩
    · rw [its_len hi, Int.toNat_natCast]
      exact sz_of hz
    · obtain ⟨S3, m3⟩ := S2.priv (o := .lst (List.replicate ((n : Int)).toNat vs).flatten) True.intro hr
      refine q _ _ _ _ ((m1.trans m2).trans m3) S3 (fr_lst S2 hr (h0_of (m1.trans m2) hr) ?_)
      rw [Int.toNat_natCast]
      exact its_rep (hi.up m2.ex m2.pre) n
theorem eb_orG {b : Bool} {t u : TT} (h1 : EvB K t es st st1 false) (h2 : EvB K u es st1 st2 b) : EvB K (tOr t u) es st st2 b := .mk fun {G H ρ σ} S T {Q} q => h1.run S T fun G1 H1 ρ1 m1 S1 => iteF (h2.run S1 (T.mv m1) fun G2 H2 ρ2 m2 S2 => q G2 H2 ρ2 (m1.trans m2) S2)
section
variable {E : XK} {α : Type} {args : α → List Pv.It} {pre : α → Prop} {stf : α → List Ob} {out : α → Pv.Out}
theorem ev_call1 {sp' : Sp} {ts : TA} (a : α) (h : EvA K ts es st (stf a) (args a)) (hp : pre a) (ho : out a = .ret r st2) : Ev K (tCall (fun vs H Q E => spV K args pre stf out vs H Q E ∨ sp' vs H Q E) [] E ts) es st st2 r := .mk fun {G H ρ σ} S T {Q} q =>
  h.run S T fun vs G1 H1 ρ1 m1 S1 hv => .inl ⟨a, G1, ρ1, hp, S1, by rw [List.append_nil]; exact hv, by
    rw [ho]
    exact fun v G2 H2 ρ2 m2 S2 hr => q v G2 H2 ρ2 (m1.trans m2) S2 (hr.back m1)⟩
theorem ev_call2 {sp' : Sp} {ts : TA} (a : α) (h : EvA K ts es st (stf a) (args a)) (hp : pre a) (ho : out a = .ret r st2) : Ev K (tCall (fun vs H Q E => sp' vs H Q E ∨ spV K args pre stf out vs H Q E) [] E ts) es st st2 r := .mk fun {G H ρ σ} S T {Q} q =>
  h.run S T fun vs G1 H1 ρ1 m1 S1 hv => .inr ⟨a, G1, ρ1, hp, S1, by rw [List.append_nil]; exact hv, by
    rw [ho]
    exact fun v G2 H2 ρ2 m2 S2 hr => q v G2 H2 ρ2 (m1.trans m2) S2 (hr.back m1)⟩
end
theorem paired_range {α β : Type} {R : α → β → Prop} {f : Nat → α} {g : Nat → β} : ∀ n, (∀ i, i < n → R (f i) (g i)) → Paired R ((List.range n).map f) ((List.range n).map g)
  | 0, _ => .nil
  | n + 1, h => by
    rw [List.range_succ, List.map_append, List.map_append]
    exact Paired.snoc (paired_range n fun i hi => h i (by omega)) (h n (Nat.lt_succ_self n))
end
end Pq

/-! {place: value} -/
namespace Pm
open PySem PySem.Spec L2
open PyProof.Rows
def tDnewT1 (tk tv : TE) : TE := fun σ H Q => ∀ p, H p = none → tPairs [(tk, tv)] σ (upd H p (.dT [])) fun ps H2 => ∃ (b : Addr) (k : List L2.Key) (v : V), ps = [(.ref b, v)] ∧ H2 p = some (.dT []) ∧ H2 b = some (.tup (k.map kV)) ∧ Q (.ref p) (upd H2 p (.dT [(k, v)]))
theorem pe_dnewT1 {X : Cx} {ek ev : Expr} {tk tv : TE} {pos : Pos} (hu : X.A.units + 1 < cLine) (hk : PE X ek tk) (hv : PE X ev tv) : PE X (.Dict [some ek] [ev] pos) (tDnewT1 tk tv) := .mk fun pins s σ H Q I q => by
  have hn := I.hok.fresh (Nat.le_refl s.heap.objs.size)
  have I1 := I.laid (a := s.heap.objs.size) (o := .dT []) (h' := s.heap.push { cls := .type "dict", data := .dict #[] }) (t' := s.toks) (fun _ _ q => Heap.get?_push_of_some _ q) (Nat.le_refl _) (dt_empty s.heap I.big)
  have pp : PPs X pos [some ek] [ev] [(tk, tv)] := pps_cons hk hv pps_nil
  rw [arm_eval_Dict, zip_pairTrees [some ek] [ev] X.env pos rfl rfl, dictDisplay_pairs (pairTrees [some ek] [ev] X.env pos) (fun z => by cases z) (by show 1 < 17; decide)]
  refine wpAny_bind (wpAny_standAt (wpAny_bind (wpAny_subDictH (knd := tupleKind (mixKind X.prog X.w)) (Q := fun d s' => wpAny (model X.prog X.w) X.A (pure (Value.ref d)) (EP X pins σ Q) X.xe s') (Nat.lt_of_succ_lt hu) (by show 1 ≤ _; decide) (thn (pp.run pins _ σ _ _ I1 (q _ hn)) fun vs s2 ⟨ps, H2, I2, rel, b, k, v, ep, hp, hb, q2⟩ => ?_))))
  subst ep
  cases rel with
  | @cons _ y _ ys h t =>
    cases t
    obtain ⟨y1, y2⟩ := y
    cases (show y1 = Value.ref b from h.1)
    obtain ⟨z, hd, xs, rx, dd⟩ := dt_of I2.hok hp
    cases rx
    refine ⟨[(k, b, y2)], ⟨rfl, rfl, key_of I2.hok hb, True.intro⟩, dd, fun h' tk' dd' hs => wpAny_pure ⟨.ref s.heap.objs.size, _, ?_, rfl, q2⟩⟩
    have dd' : h'.DictOfH (tupleKind (mixKind X.prog X.w)) s.heap.objs.size [(k, b, y2)] := dd'
    obtain ⟨o, es, ep, hq, h2, h3, h4, h6, h5⟩ := dd'
    refine d_write I2 (by rw [hp]; exact True.intro) hs ⟨o, hq⟩ ⟨?_, hd, [(k, b, y2)], .cons ⟨rfl, ?_, h.2⟩ .nil, o, es, ep, hq, h2, h3, h4, h5⟩
    · show 1 ≤ sizeLine
      rw [sizeLine_eq]
      omega
    · rw [upd_ne (ne_of hb hp (fun z => nomatch z))]
      exact hb
end Pm

/-! an exception that leaves a dict comprehension -/
namespace Pm
open PySem PySem.Spec L2
open PyProof.Rows
section
variable {X : Cx} {pins : List (Addr × Obj)} {σ : L2.St} {H : Hp} {s s' sI : Shared} {B : Heap} {W : WX} {E : XK}
/-- frames, but for an object that is none of them -/
theorem funFrames_but {B B2 h h2 : Heap} {C : Addr} (hh : ∀ b, b ≠ C → h2.get? b = h.get? b) (hB : ∀ b, b ≠ C → B2.get? b = B.get? b) : ∀ {l : List Env}, C ∉ frs l → h.FunFrames B l → h2.FunFrames B2 l
  | [], _, _ => trivial
  | env :: l, nC, h0 => by
    obtain ⟨hk, ⟨L, o, hf, hb, ho, hd⟩, hr⟩ := h0
    have ne : L ≠ C := fun z => nC (List.mem_filterMap.mpr ⟨env, List.mem_cons_self, by rw [hf, z]⟩)
    refine ⟨hk, ⟨L, o, hf, by rw [hB L ne]; exact hb, by rw [hh L ne]; exact ho, hd⟩, funFrames_but hh hB (fun z => nC ?_) hr⟩
    obtain ⟨e, he, q⟩ := List.mem_filterMap.mp z
    exact List.mem_filterMap.mpr ⟨e, List.mem_cons_of_mem _ he, q⟩
/-- an exception that is noted at our frame is in our air -/
theorem xe_held {a : Addr} {H' : Hp} {cls : Value} {d : Option Addr} (I : Inv X pins σ H s) (hd : HandSPX.HeldZ B X.stack a (Zc cls d) X.env.locals s'.heap) (hok : HOk X.prog X.w H' B) (ub : UB (frs X.stack) H H' s.heap B s'.heap) (na : H' a = none) (os : s'.os = s.os) (ag : AllBare s'.gens) (hW : W cls d σ H') : XE X W (.ref a) s' := by
  obtain ⟨G, g1, g2⟩ := restrict s'.heap fun b => (B.get? b).isSome || decide (b ∈ frs X.stack)
  have st : B.StaysIn s'.heap := hd.1
  have gB : ∀ b o, B.get? b = some o → G.get? b = some o := fun b o e => by
    rw [g1 b (by simp [e])]
    exact st b o e
  have gF : ∀ b, b ∈ frs X.stack → G.get? b = s'.heap.get? b := fun b hb => g1 b (by simp [hb])
  have og : ∀ b o, G.get? b = some o → s'.heap.get? b = some o ∧ ((B.get? b).isSome = true ∨ b ∈ frs X.stack) := fun b o e => by
    cases q : ((B.get? b).isSome || decide (b ∈ frs X.stack)) with
    | false => rw [g2 b q] at e; cases e
    | true =>
      rw [g1 b q] at e
      exact ⟨e, by simpa [Bool.or_eq_true] using q⟩
  refine ⟨a, B, { s with heap := G, gens := s'.gens, drawn := s'.drawn, toks := s'.toks }, pins, σ, H', cls, d, rfl, ?_, fun b o e hb => ?_, Heap.UpToSlots.of_keeps fun b o e => (og b o e).1, .inr (.inr hd), na, os, ag, hW⟩
  · refine I.call (ch := []) ⟨fun b o e n hb _ => gB b o (ub.keep b o e n hb), fun b o e n hb _ => ?_, fun b o e n _ => ub.free b o e n, fun b o e _ => ?_, ub.tups, ub.frzs, ub.tbls⟩ (hok.kept gB) ag (fun _ z => nomatch z)
    · obtain ⟨sl, q⟩ := ub.slot b o e hb
      exact ⟨sl, by rw [gF b hb]; exact q⟩
    · by_cases hb : b ∈ frs X.stack
      · obtain ⟨sl, q⟩ := ub.slot b o e hb
        exact ⟨_, by rw [gF b hb]; exact q⟩
      · obtain ⟨o', q⟩ := ub.there b o e hb
        exact ⟨o', gB b o' q⟩
  · obtain ⟨e', h⟩ := og b o e
    rcases h with h | h
    · obtain ⟨o', q⟩ := Option.isSome_iff_exists.mp h
      have z := st b o' q
      rw [e'] at z; cases z
      exact q
    · exact absurd h hb
/-- a callee's exception leaves a comprehension's block, whose names stand at C -/
theorem leave_comp {C : Addr} {m : Str → Option Value} {u : Value} {ce : Env} {E₁ : Value → Shared → Prop} (I : Inv X pins σ H s) (hs : X.stack = X.env :: X.outer) (hf : X.env.frame = some X.env.locals) (tk : Takes X W) (hW : ∀ cls d H, E cls d H → W cls d σ H)
    (hn : s.heap.Ns C m) (hC : FpOk X pins H C) (cL : ce.locals = C) (cF : ce.frame = X.env.frame) (c : CX X.prog X.w X.stack H s E u s') :
    wpAny (model X.prog X.w) X.A (noteFrame u ce) (fun _ s'' => CompFails (model X.prog X.w) X.A X.xe ce u s'') E₁ s' := by
  obtain ⟨a, B, H', cls, d, rfl, fl, hok, ub, na, os, ag, hE⟩ := c
  have hfr : X.A.frames = some (X.env :: X.outer) := by rw [I.ok.frames, hs]
  obtain ⟨hC0, hCL, hCf, hC1, hC2, hC3⟩ := hC
  have hCs : C ∉ frs X.stack := fun z => by
    rcases List.mem_cons.mp (I.stkSub C z) with q | q
    · exact hCL q
    · exact hCf q
  obtain ⟨oC, es, ep, ho, hdC, hsk, hfind⟩ := hn
  have BC : B.get? C = some oC := ub.keep C oC ho hC0 hCs
  have note : noteFrame (.ref a) ce = noteFrame (.ref a) X.env := by
    unfold noteFrame PySem.frameOf
    rw [cF]
  rw [note]
  refine HandSPX.looks_onZ Zc.steady hfr hf (by rw [← hs]; exact fl) fun h1 hh up => ?_
  rw [← hs] at hh
  have h1C : h1.get? C = some oC := hh.1 C oC BC
  show CompFails _ _ _ _ _ _
  refine ⟨m, ?_, fun h2 m2 hn2 sb => ?_⟩
  · rw [cL]
    exact ⟨oC, es, ep, h1C, hdC, hsk, hfind⟩
  rw [cL] at hn2 sb
  obtain ⟨o2, es2, ep2, ho2, hd2, _⟩ := hn2
  have nf2 : o2.isFreed = false := (Heap.get?_some_iff.mp ho2).2
  have sbo : ∀ b, b ≠ C → h2.get? b = h1.get? b := fun b nb => sb.2 b nb
  obtain ⟨B2, eB2⟩ : ∃ B2, B2 = B.update C (fun _ => o2) := ⟨_, rfl⟩
  have B2C : B2.get? C = some o2 := by
    rw [eB2]
    exact Heap.get?_update_self (fun _ => o2) BC nf2
  have B2o : ∀ b, b ≠ C → B2.get? b = B.get? b := fun b nb => by
    rw [eB2]
    exact Heap.get?_update_other _ _ (Ne.symm nb)
  obtain ⟨hS, eS⟩ : ∃ hS, hS = s.heap.update C (fun _ => o2) := ⟨_, rfl⟩
  have hSC : hS.get? C = some o2 := by
    rw [eS]
    exact Heap.get?_update_self (fun _ => o2) ho nf2
  have hSo : ∀ b, b ≠ C → hS.get? b = s.heap.get? b := fun b nb => by
    rw [eS]
    exact Heap.get?_update_other _ _ (Ne.symm nb)
  have I2 : Inv X pins σ H { s with heap := hS, toks := s.toks } := I.turned (t' := s.toks) (fun b o nb e => by rw [hSo b nb]; exact e) hC0 hCL hC1 hC2 hC3
  have H'C : H' C = none := ub.free C oC ho hC0
  have aC : a ≠ C := fun z => by
    have q := hh.2.1
    rw [z, BC] at q
    cases q
  have k0 : B2.StaysIn h2 := fun b o e => by
    by_cases nb : b = C
    · rw [nb, B2C] at e
      rw [nb, ho2]
      exact e
    · rw [sbo b nb]
      exact hh.1 b o (by rw [← B2o b nb]; exact e)
  have l0 : h2.FunFrames B2 X.stack := funFrames_but sbo B2o hCs hh.2.2.1
  obtain ⟨oe, vs, T, oT, ts, he, hz, hd, h1e, hnT, hTe, hT, hdT, h3⟩ := hh.2.2.2
  have TC : T ≠ C := fun z => by
    rw [z, BC] at hnT
    cases hnT
  have t0 : HandSPX.TracedZ h2 B2 a (Zc cls d) (rawInt X.env.locals) := ⟨oe, vs, T, oT, ts, by rw [sbo a aC]; exact he, hz, hd, h1e, by rw [B2o T TC]; exact hnT, hTe, by rw [sbo T TC]; exact hT, hdT, h3⟩
  unfold PySem.passOn
  refine wpAny_bind (wpAny_field (s := { s' with heap := h2 }) (by rw [← sbo a aC] at he; exact he) hd h1e ?_)
  rw [if_neg (show ¬ ((Value.ref T == Value.none) = true) from by simp)]
  refine wpAny_bind (HandSPX.setFlight_anyZ k0 l0 t0 fun h4 k1 k2 k3 k4 => wpAny_throw (tk _ _ ?_))
  rw [cF, hf] at k3
  refine xe_held (B := B2) I2 ⟨k1, by rw [B2o a aC]; exact hh.2.1, k2, k3⟩ (fun b o q => ?_) ⟨fun b o e n hb => ?_, fun b o e hb => ?_, fun b o e n => ?_, fun b o e hb => ?_, ub.tups, ub.frzs, ub.tbls⟩ na os ag (hW _ _ _ hE)
  · refine (hok b o q).stay (fun c u hc r => ?_) (fun _ r => r) fun _ _ r => r
    have nc : c ≠ C := fun z => by
      have hn : H' c = none := by rw [z]; exact H'C
      rcases hc with hc | hc
      · rw [hc] at hn
        rw [hn] at q
        cases q
      · rw [hn] at hc
        cases hc
    rw [B2o c nc]
    exact r
  · by_cases nb : b = C
    · subst nb
      rw [B2C]
      have e : hS.get? b = some o := e
      rw [hSC] at e
      exact e
    · rw [B2o b nb]
      refine ub.keep b o ?_ n hb
      rw [← hSo b nb]
      exact e
  · have nb : b ≠ C := fun z => hCs (z ▸ hb)
    have e : s.heap.get? b = some o := by rw [← hSo b nb]; exact e
    obtain ⟨sl, q1⟩ := ub.slot b o e hb
    obtain ⟨_, o0, e0, hnf⟩ := I.stack.mem hb
    rw [e] at e0
    cases e0
    obtain ⟨sl2, q2⟩ := up b _ q1 hnf
    rw [← sbo b nb] at q2
    obtain ⟨sl3, q3⟩ := k4 b _ q2 hnf
    exact ⟨sl3, q3⟩
  · by_cases nb : b = C
    · rw [nb]
      exact H'C
    · refine ub.free b o ?_ n
      rw [← hSo b nb]
      exact e
  · by_cases nb : b = C
    · exact ⟨o2, by rw [nb]; exact B2C⟩
    · have e : s.heap.get? b = some o := by rw [← hSo b nb]; exact e
      obtain ⟨o', q⟩ := ub.there b o e hb
      exact ⟨o', by rw [B2o b nb]; exact q⟩

/-- a block's context with what is wished of its exceptions -/
abbrev blkX (X : Cx) (s : Shared) (H : Hp) (scope : Scope) (ce : Env) (fp : List Addr) (xe : Value → Shared → Prop) : Cx := { X.blk s H scope ce fp with xe := xe }
variable {kx vx a j : Expr} {c : List Expr} {scope : Scope} {p p' : Pos} {own : List (Str × Nat)} {wi : TI} {g : TG} {tt : TT} {tk tv : TE}
theorem dcTX_core {Q : VK} {use : Option (Value → Sem Unit)} {Qf : Value → Shared → Prop} (hc : X.calm = true) (hN : X.N.Nodup) (hu : X.A.units + 1 < cLine) (I : Inv X pins σ H s) (hi : PI X a j wi) (ok : BlkOk X.N X.env.scope scope own)
    (hst : X.stack = X.env :: X.outer) (hfm : X.env.frame = some X.env.locals) (ta : Takes X W) (hW : ∀ cls d σ H, E cls d H → W cls d σ H)
    (hg : ∀ (s : Shared) (H : Hp) (C : Addr) (cl : List (Str × Addr)) (fp : List Addr) (xe : Value → Shared → Prop), PG (blkX X s H scope (compEnvC scope cl C X.env) fp xe) a g)
    (ht : ∀ (s : Shared) (H : Hp) (C : Addr) (cl : List (Str × Addr)) (fp : List Addr) (xe : Value → Shared → Prop), PTs (blkX X s H scope (compEnvC scope cl C X.env) fp xe) c tt)
    (hk : ∀ (s : Shared) (H : Hp) (C : Addr) (cl : List (Str × Addr)) (fp : List Addr) (xe : Value → Shared → Prop), PE (blkX X s H scope (compEnvC scope cl C X.env) fp xe) kx tk)
    (hv : ∀ (s : Shared) (H : Hp) (C : Addr) (cl : List (Str × Addr)) (fp : List Addr) (xe : Value → Shared → Prop), Passes (L2.CX X.prog X.w) (blkX X s H scope (compEnvC scope cl C X.env) fp xe) E → PE (blkX X s H scope (compEnvC scope cl C X.env) fp xe) vx tv)
    (hs : ∀ x, foldedSetIterable j X.env x = pure x) (h : tDcT wi g tt tk tv (own.map (·.2)) σ H Q)
    (fin : ∀ D C s' m H', Inv X pins σ H' s' → Q (.ref D) H' → s'.heap.Ns C m → FpOk X pins H' C → compPost (model X.prog X.w) X.A X.xe use Qf (.ref D) C (.ok .next) s') :
    wpAny (model X.prog X.w) X.A (comprehension (dcE kx vx a j c scope p) scope X.env p' newDict false (eval j X.env) use) Qf X.xe s := by
  have free : ∀ y ∈ scope.names, y.2 = .free → ∃ q, X.env.cells.lookup y.1 = some q := fun y hy z => (ok.free y hy z).elim (fun k => I.ok.has _ (.inl k)) fun k => I.ok.has _ (.inr k)
  refine comprehension_at (use := use) rfl hs (closure_ok free) ok.kind (fun y hy z => by rw [ok.uniq y hy, z]) (thn (hi.run pins s σ H _ I h) fun _ s1 hx => thn hx fun _ s2 ⟨it, fp, tn, J, H2, z, I2, T, st2, f2, q⟩ => ?_)
  subst z
  refine wpAny_newObj_type (newEnv_comp ?_)
  generalize hD : s2.heap.objs.size = D
  obtain ⟨W', ⟨m0, w0⟩, turn⟩ := q D (I2.hok.fresh (Nat.le_of_eq hD))
  generalize hs3 : ({ s2 with heap := s2.heap.push { cls := .type "dict", data := .dict #[] } } : Shared) = s3
  have up : ∀ b o, s2.heap.get? b = some o → s3.heap.get? b = some o := fun b o z => by rw [← hs3]; exact Heap.get?_push_of_some _ z
  have I3 : Inv X pins σ (upd H2 D (.dT [])) s3 := by
    rw [← hs3]
    refine I2.laid (t' := s2.toks) (fun b o z => Heap.get?_push_of_some _ z) (Nat.le_of_eq hD) ?_
    rw [← hD]
    exact dt_empty s2.heap I2.big
  have lt : ∀ b ∈ fp, b < s2.heap.objs.size := fun b hb => by
    obtain ⟨o, z, _⟩ := T.obj _ _ st2 b hb
    exact Heap.lt_size z
  generalize hH3 : upd H2 D (.dT []) = H3 at I3 w0
  have f3 : ∀ b ∈ fp, FpOk X pins H3 b ∧ b < s3.heap.objs.size := fun b hb => by
    obtain ⟨o, z, _⟩ := T.obj _ _ st2 b hb
    refine ⟨⟨?_, (f2 b hb).2⟩, Heap.lt_size (up _ _ z)⟩
    rw [← hH3, upd_ne (by rw [← hD]; exact Nat.ne_of_lt (lt b hb))]
    exact (f2 b hb).1
  have I4 := block_start I3 ok hN f3
  show codeAny _ _ (.compStart (dcE kx vx a j c scope p) 0 (.ref it) (.ref D) (compEnvC scope (cellsFrom (s3.heap.objs.size + 1) scope.names (cloFrom X.env.cells scope.names [])) s3.heap.objs.size X.env)) (compEnds (model X.prog X.w) X.A X.xe use Qf (.ref D) (compEnvC scope (cellsFrom (s3.heap.objs.size + 1) scope.names (cloFrom X.env.cells scope.names [])) s3.heap.objs.size X.env)) { s3 with heap := pushCells (s3.heap.push { cls := .type "dict", data := .dict #[] }) scope.names }
  have cut : ∀ ce, ce = compEnvC scope (cellsFrom (s3.heap.objs.size + 1) scope.names (cloFrom X.env.cells scope.names [])) s3.heap.objs.size X.env → ce.locals = s3.heap.objs.size ∧ ce.frame = X.env.frame ∧ ∀ xe, PG (blkX X s3 H3 scope ce fp xe) a g ∧ PTs (blkX X s3 H3 scope ce fp xe) c tt ∧ PE (blkX X s3 H3 scope ce fp xe) kx tk ∧ (Passes (L2.CX X.prog X.w) (blkX X s3 H3 scope ce fp xe) E → PE (blkX X s3 H3 scope ce fp xe) vx tv) := fun ce z => by
    subst z
    exact ⟨rfl, rfl, fun xe => ⟨hg s3 H3 _ _ fp xe, ht s3 H3 _ _ fp xe, hk s3 H3 _ _ fp xe, hv s3 H3 _ _ fp xe⟩⟩
  generalize compEnvC scope (cellsFrom (s3.heap.objs.size + 1) scope.names (cloFrom X.env.cells scope.names [])) s3.heap.objs.size X.env = ce at I4 cut ⊢
  obtain ⟨cL, cF, pall⟩ := cut ce rfl
  obtain ⟨RR, eR⟩ : ∃ RR : Result → Shared → Prop, RR = fun r s' => match r with | .ok f => compEnds (model X.prog X.w) X.A X.xe use Qf (.ref D) ce (.ok f) s' | .error x => CompFails (model X.prog X.w) X.A X.xe ce x s' := ⟨_, rfl⟩
  refine codeAny_mono (R := RR) ?_ fun r s' q => by
    rw [eR] at q
    cases r <;> cases use <;> exact q
  let xb : Value → Shared → Prop := notedBy (model X.prog X.w) X.A ce fun e s' => RR (.error e) s'
  obtain ⟨pg, pt, pk, pv'⟩ := pall xb
  have I4 : Inv (blkX X s3 H3 scope ce fp xb) [] (wipe σ (own.map (·.2))) H3 { s3 with heap := pushCells (s3.heap.push { cls := .type "dict", data := .dict #[] }) scope.names } := I4.toTry xb
  have toX : ∀ {pn' : List (Addr × Obj)} {σ' : L2.St} {H' : Hp} {s' : Shared}, Inv (blkX X s3 H3 scope ce fp xb) pn' σ' H' s' → Inv X pins σ H' s' := fun I6 => I3.call' (ch := fp) I6.os I6.base I6.hok I6.bare fun b hb => ⟨(f3 b hb).1.2.2.2.1, (f3 b hb).1.2.1, (f3 b hb).1.2.2.2.2.1, (f3 b hb).1.2.2.2.2.2⟩
  have pv := pv' fun pn' σ' H' sx e s' I' cx => by
    have nC : H' s3.heap.objs.size = none := by
      rw [← cL]
      exact I'.free
    obtain ⟨m, hn, _⟩ := I'.loc
    have hn : sx.heap.Ns ce.locals m := hn
    rw [cL] at hn
    have key := leave_comp (E₁ := fun e s' => CompFails (model X.prog X.w) X.A X.xe ce e s') (toX I') hst hfm ta (fun cls d H => hW cls d σ H) hn (I3.fpOk (Nat.le_refl _) nC) cL cF cx
    show wpAny _ _ (noteFrame e ce) (fun _ s'' => RR (.error e) s'') (fun e s' => RR (.error e) s') s'
    rw [eR]
    exact key
  generalize hs4 : ({ s3 with heap := pushCells (s3.heap.push { cls := .type "dict", data := .dict #[] }) scope.names } : Shared) = s4 at I4 ⊢
  have st4 : tn 0 s4.heap := T.keep _ _ _ st2 fun b _ o z => by
    rw [← hs4]
    exact pushCells_keeps _ _ _ _ (Heap.get?_push_of_some _ (up _ _ z))
  have fq : ∀ {H' : Hp}, (∀ b ∈ fp, H' b = none) → (∀ b ∈ fp, FpOk (blkX X s3 H3 scope ce fp xb) [] H3 b) → ∀ b ∈ fp, FpOk (blkX X s3 H3 scope ce fp xb) [] H' b := fun n k b hb => ⟨n b hb, (k b hb).2⟩
  have k0 : ∀ b ∈ fp, FpOk (blkX X s3 H3 scope ce fp xb) [] H3 b := fun b hb => ⟨(f3 b hb).1.1, (I4.ok.exf b hb).1, I4.ok.exfs b hb, .inl hb, fun x q z => (I4.ok.exf b hb).2 x q z, fun r hr => absurd (show r ∈ ([] : List (Addr × Obj)) ++ [] from hr) (by simp)⟩
  have loop : codeAny (model X.prog X.w) X.A (.compLoop (dcE kx vx a j c scope p) 0 (.ref it) (.ref D) ce) RR s4 := by
    refine compLoop_anyD (fun n s' => ∃ i H', Inv (blkX X s3 H3 scope ce fp xb) [] (wipe σ (own.map (·.2))) H' s' ∧ tn i s'.heap ∧ (∀ b ∈ fp, H' b = none) ∧ W' i n H') (fun n s5 ⟨i, H5, I5, st5, n5, w5⟩ => ?_) m0 ⟨0, H3, I4, st4, fun b hb => (f3 b hb).1.1, w0⟩
    rcases turn i n H5 w5 with ⟨stop, qq⟩ | ⟨go, Nx, hNx, step⟩
    · refine thnF (T.done (blkX X s3 H3 scope ce fp xb) rfl rfl rfl hc i [] s5 _ H5 (fun _ _ => False) I5 (fq n5 k0) st5 stop) fun r s6 ⟨hr, I6⟩ => ?_
      subst hr
      have I7 : Inv X pins σ H5 s6 := toX I6
      have nC : H5 s3.heap.objs.size = none := by
        rw [← cL]
        exact I6.free
      obtain ⟨m, hn, _⟩ := I6.loc
      have hn : s6.heap.Ns ce.locals m := hn
      rw [cL] at hn
      have F := fin D s3.heap.objs.size s6 m H5 I7 qq hn (I3.fpOk (Nat.le_refl _) nC)
      rw [← cL] at F
      show RR _ _
      rw [eR]
      cases use <;> exact F
    refine thnF (T.item (blkX X s3 H3 scope ce fp xb) rfl rfl rfl hc i [] s5 _ H5 (fun _ _ => False) I5 (fq n5 k0) st5 go) fun r s6 ⟨u, hr, h6⟩ => ?_
    subst hr
    refine thnF h6 fun _ s7 ⟨x, H7, I7, r7, y7, st7, n7⟩ => ?_
    have I7' := I7.pinned (fq n7 k0) (T.obj _ _ st7)
    refine thn (pg.run _ s7 _ H7 x u _ I7' r7 (step x H7 y7)) fun _ s8 ⟨σ8, H8, I8, hw8, q8⟩ => ?_
    refine thn (pt.run _ s8 σ8 H8 _ I8 q8) fun b s9 ⟨H9, I9, q9⟩ => ?_
    have back : ∀ {s' : Shared} {H' : Hp}, Inv (blkX X s3 H3 scope ce fp xb) ([] ++ pinsAt fp s7.heap) σ8 H' s' → Nx H' → ∃ m, m < n ∧ ∃ i H', Inv (blkX X s3 H3 scope ce fp xb) [] (wipe σ (own.map (·.2))) H' s' ∧ tn i s'.heap ∧ (∀ b ∈ fp, H' b = none) ∧ W' i m H' := fun {s' H'} I' nx => by
      obtain ⟨m, hm, w'⟩ := hNx H' nx
      have pin : ∀ b ∈ fp, ∀ o, s7.heap.get? b = some o → s'.heap.get? b = some o ∧ H' b = none := fun b hb o z => by
        have q := I'.pin (b, o) (List.mem_append_right _ (List.mem_append_right _ (mem_pinsAt hb z)))
        exact ⟨q.1, q.2.1⟩
      refine ⟨m, hm, i + 1, H', (I'.unpinned (pins := [])).weak (by rw [← hw8, wipe_length]) (fun q v z => by rw [← hw8] at z; exact (wipe_some z).1), T.keep _ _ _ st7 fun b hb o z => (pin b hb o z).1, fun b hb => ?_, w'⟩
      obtain ⟨o, z, _⟩ := T.obj _ _ st7 b hb
      exact (pin b hb o z).2
    cases b with
    | false => exact back I9 q9
    | true =>
      refine thn (pk.run _ s9 σ8 H9 _ I9 q9) fun z s10 ⟨y, H10, I10, r10, q10⟩ => ?_
      refine thn (pv.run _ s10 σ8 H10 _ I10 q10) fun z2 s11 ⟨y2, H11, I11, r11, b2, k, kvs, ey, hb2, hD2, hz2, nx⟩ => ?_
      subst ey
      exact put_dT (X := blkX X s3 H3 scope ce fp xb) hu I11 hD2 hb2 hz2 r10 r11 fun s12 I12 => back I12 nx
  exact codeAny_compStart_dict loop (T.self X.A 0 _ _ _ st4 loop)
/-- y = {..}, a value of which may raise -/
theorem ps_setDcTX {i : Nat} {y : Str} {py spos : Pos} (hc : X.calm = true) (hN : X.N.Nodup) (hu : X.A.units + 1 < cLine) (hst : X.stack = X.env :: X.outer) (hfm : X.env.frame = some X.env.locals) (ta : Takes X W) (hW : ∀ cls d σ H, E cls d H → W cls d σ H) (hi : PI X a j wi) (ok : BlkOk X.N X.env.scope scope own)
    (hg : ∀ (s : Shared) (H : Hp) (C : Addr) (cl : List (Str × Addr)) (fp : List Addr) (xe : Value → Shared → Prop), PG (blkX X s H scope (compEnvC scope cl C X.env) fp xe) a g)
    (ht : ∀ (s : Shared) (H : Hp) (C : Addr) (cl : List (Str × Addr)) (fp : List Addr) (xe : Value → Shared → Prop), PTs (blkX X s H scope (compEnvC scope cl C X.env) fp xe) c tt)
    (hk : ∀ (s : Shared) (H : Hp) (C : Addr) (cl : List (Str × Addr)) (fp : List Addr) (xe : Value → Shared → Prop), PE (blkX X s H scope (compEnvC scope cl C X.env) fp xe) kx tk)
    (hv : ∀ (s : Shared) (H : Hp) (C : Addr) (cl : List (Str × Addr)) (fp : List Addr) (xe : Value → Shared → Prop), Passes (L2.CX X.prog X.w) (blkX X s H scope (compEnvC scope cl C X.env) fp xe) E → PE (blkX X s H scope (compEnvC scope cl C X.env) fp xe) vx tv)
    (hy : X.N[i]? = some y) (hyl : X.env.scope.names.lookup y = some .local) (hsw : swapsWith (dcE kx vx a j c scope p) (some (.Name y py)) spos.line X.env = pure true)
    (hs : ∀ x, foldedSetIterable j X.env x = pure x := by intro _; rfl) : PS X (.Assign [.Name y py] (dcE kx vx a j c scope p) spos) (tAsg (tDcT wi g tt tk tv (own.map (·.2))) (gName i)) := by
  refine ⟨fun pins s σ H D I h => ?_⟩
  rw [exec_Assign_Name_used _ _ _ _ hsw]
  refine wpAny_bind (wpAny_standAt (wpAny_bind ?_))
  show wpAny _ X.A (do let _ ← comprehension (dcE kx vx a j c scope p) scope X.env (firstIterPos [⟨a, j, c, 0⟩] p) newDict false (eval j X.env) (some (assign (.Name y py) X.env))) _ _ s
  have h : tDcT wi g tt tk tv (own.map (·.2)) σ H (fun x H1 => gName i x σ H1 D.nx) := h
  refine wpAny_bind (thn (dcTX_core (Qf := fun _ s' => SP X pins D .next s') hc hN hu I hi ok hst hfm ta hW hg ht hk hv hs h fun L C s' m H' I' q hn f => ?_) fun _ s' hq => wpAny_pure (wpAny_pure hq))
  show wpAny _ _ (assign (.Name y py) X.env (.ref L)) _ _ _
  refine wpAny_assign_Name (store_ok2 (v := V.ref L) I' hN hy (.inl hyl) rfl (fun s2 I2 ⟨b, sb, hb⟩ => ?_) (.inr hyl))
  obtain ⟨f0, f1, _, f3, f4, f5⟩ := f
  have ne : C ≠ b := hb.elim (fun z => by rw [z]; exact f1) fun z e => f4 y b z e.symm
  exact ⟨m, hn.sameBut sb ne, fun h3 sb3 => ⟨_, H', I2.turned (t' := s2.toks) (fun b o hb z => (sb3.2 b hb).trans z) f0 f1 f3 f4 f5, q⟩⟩
end
end Pm

/-! an exception that leaves a dict comprehension: the layer's rule -/
namespace Pv
open PySem PySem.Spec L2
open Evl (Ex sz_of sz_lt)
open PyProof.Rows (envOfC)
section
variable {K : PySem.W.Frag} {es : Es} {st st1 st2 st3 : List Ob} {ta tb te tk tv : TE} {tt : TT} {x y : It} {xs ys : List It} {r : Rv} {E : XK} {P : Post} {m : List (P2 × It)}
theorem ex_dc {α : Type} {wi : TI} {j n : Nat} {b : α} {C : Addr} {vs : List Nat} {ok : List Ob → Prop} {as : List α} {enc : α → It} (f : α → P2) (g : α → PyData) (h : EvI K wi es st st1 ok (as.map enc)) (hok : ok st1) (hz : as.length ≤ 50000) (hj : ∀ σ x, wipe ((wipe σ vs).set j x) vs = wipe σ vs)
    (hk : ∀ a ∈ as, Ev K tk ((wipeE es vs).set j (.it (enc a))) st1 st1 (.dat (pD (f a)))) (he : ∀ i a, i < n → as[i]? = some a → Ev K tv ((wipeE es vs).set j (.it (enc a))) st1 st1 (.dat (g a)))
    (hb : as[n]? = some b) (hx : ExC K (cW E) tv ((wipeE es vs).set j (.it (enc b))) st1 C st2) : ExC K (cW E) (Pm.tDcT wi (gName j) tYes tk tv vs) es st C st2 := .mk fun {G H ρ σ} S T q {Q} =>
  h.run S T fun J G1 H1 ρ1 m1 S1 hJ D hD => by
    have la : (as.map enc).length = as.length := List.length_map _
    have hn := (List.getElem?_eq_some_iff.mp hb).1
    obtain ⟨S1', m1'⟩ := S1.priv (o := .dT []) True.intro hD
    have nD : D ∉ ρ1 := fun z => by
      obtain ⟨_, u, hu⟩ := S1.pr D z
      rw [hD] at hu
      cases hu
    refine ⟨fun i n' H' => n' = as.length - i ∧ i ≤ n ∧ BldD K G1 H1 ρ1 D st1 H' (putAll f (fun a => .dat (g a)) (as.take i)), ⟨as.length, by simp, Nat.zero_le _, G1, ρ1, m1', S1', fresh_back S1.ex hD, nD, [], upd_same, .nil⟩, ?_⟩
    rintro i n' H' ⟨rfl, hi, G', ρ', mm, S', gD, nD', kvs, ha, hda⟩
    have hlt : i < as.length := by omega
    refine .inr ⟨hJ.go xNo i _ _ _ st1 old_no mm.mw S' hok (by rw [la]; exact hlt), fun H' => i + 1 ≤ n ∧ BldD K G1 H1 ρ1 D st1 H' (putAll f (fun a => .dat (g a)) (as.take (i + 1))), fun H3 w => ⟨as.length - (i + 1), by omega, rfl, w⟩, fun v H3 y => ?_⟩
    obtain ⟨rfl, x, hxi, hx'⟩ := hJ.yld xNo i v _ _ _ _ st1 old_no mm.mw S' hok (by rw [la]; exact hlt) y
    rw [List.getElem?_map] at hxi
    obtain ⟨a, hai, rfl⟩ := Option.map_eq_some_iff.mp hxi
    have hm : a ∈ as := List.mem_of_getElem? hai
    have T' := ((T.mv (m1.trans mm)).wipe vs).put j (v := some v) (e := .it (enc a)) ⟨v, rfl, hx'⟩
    have few : kvs.length ≤ i := by
      rw [dm_len hda]
      refine Nat.le_trans (putAll_len _ _) ?_
      rw [List.length_take]
      show 0 + min i as.length ≤ i
      omega
    refine ⟨hj σ (some v), ?_⟩
    rw [Pu.tYes_at, if_pos rfl]
    refine (hk a hm).run S' T' fun u G4 H4 ρ4 m4 S4 hu => ?_
    by_cases hin : i < n
    · obtain ⟨a4, g4, n4⟩ := m4.fm D _ ha gD nD'
      refine (he i a hin hai).run S4 (T'.mv m4) fun z G5 H5 ρ5 m5 S5 hz' => ?_
      obtain ⟨a5, g5, n5⟩ := m5.fm D _ a4 g4 n4
      obtain ⟨b, rfl, hb⟩ := key_at (Dq.up (show Dq K G4 u (pD (f a)) from hu) m5.ex)
      refine ⟨b, pk (f a), kvs, rfl, S5.ex _ _ hb, a5, sz_lt (by omega), hin, G5, ρ5, ((mm.trans m4).trans m5).poke hD a5, S5.poke g5 n5 a5 (fun q z => nomatch z) True.intro, g5, n5, _, upd_same, ?_⟩
      have e : putAll f (fun a => It.dat (g a)) (as.take (i + 1)) = putM (putAll f (fun a => It.dat (g a)) (as.take i)) (f a) (.dat (g a)) := by
        unfold putAll
        rw [List.take_add_one, hai]
        show List.foldl _ _ (_ ++ [a]) = _
        rw [List.foldl_append]
        rfl
      rw [e]
      exact put_at (dm_up (m4.ex.trans m5.ex) (m4.pre.trans m5.pre) hda) hz'
    · have e : i = n := by omega
      subst e
      rw [hb] at hai
      cases hai
      exact hx.run S4 (T'.mv m4) fun G5 H5 ρ5 m5 S5 => q G5 H5 ρ5 (((m1.trans mm).trans m4).trans m5) S5
end
end Pv

/-! isinstance of a caught error and a tuple of own classes -/
namespace Pm
open PySem PySem.Spec L2
open PyProof.Rows
/-- isinstance(e, (c, ..)), e the exception that the suite holds -/
def rIsEM (K : PySem.W.Frag) (D a : Addr) : List V → Hp → VK → Prop := fun xs H Q => ∃ (p : Addr) (cs : List V) (cvs : List Value) (b : Bool), xs = [.ref a, .ref p] ∧ H p = some (.tup cs) ∧ (∀ us, Vals cs us → us = cvs) ∧ PySem.W.kitAny K (.ref D) cvs = some b ∧ Q (.bl b) H
theorem call_isEM {X : Cx} {a D : Addr} {oe : Obj} {pn : List (Addr × Obj)} (C : ExcC X.K D) (hz : Zc (.ref D) none oe) (hf : ∃ vs, oe.data = .fields vs) : CallR (X.suite a ((a, oe) :: pn)) (.builtin "isinstance") (rIsEM X.K D a) := by
  intro pins s σ H xs us Q I r h
  obtain ⟨p, cs, cvs, b, rfl, hp, hcv, e, q⟩ := h
  cases r with
  | cons rx rr =>
    cases rr with
    | cons rt rr =>
      cases rr
      cases rx
      cases rt
      obtain ⟨_, its, hv, ht⟩ := I.hok p _ hp
      have ei := hcv _ hv
      subst ei
      obtain ⟨hget, _⟩ := I.pin (a, oe) (List.mem_append.mpr (.inl List.mem_cons_self))
      obtain ⟨vs, hv'⟩ := hf
      have J : PySem.W.InstAt s.heap a oe D none := by
        obtain ⟨oc, od, oda, osl⟩ := oe
        obtain ⟨h1, h2⟩ := hz
        dsimp only at h1 h2 hv'
        subst h1 h2 hv'
        exact ⟨hget, rfl, rfl, trivial⟩
      obtain ⟨⟨tc, td, tda, tsl⟩, ht, h1, n, h2⟩ := ht
      dsimp only at h1 h2
      subst h1 h2
      exact PySem.W.kia_tup (PySem.W.handS_kitx_exc C.hg C.hk C.hs C.hd C.ha C.hn C.ht C.hm) I.kIn J ht e (fun z => nomatch z) fun tk => ⟨.bl b, H, I.kept (t' := tk) fun _ _ z => z, rfl, q⟩
end Pm
namespace Pv
open PySem PySem.Spec L2
open PyProof.Rows (envOfC)
section
variable {K : PySem.W.Frag} {es : Es} {st st1 st2 st3 : List Ob} {ta tb te : TE} {W : WE} {P : Post}
/-- try: body, except c as e: return isinstance(e, ValueError) and not isinstance(e, (C1, C2)) -/
theorem w_tryIs2 {c : Value} {C1 C2 : Addr} {i : Nat} {tb : WE → TS} {Wout : WE} {pp : Value → Option Addr → Prop}
    (h : ∀ W', Ws K W' (tb W') es st ⟨P.nx, P.rt, P.bk, P.ct, fun C e s => PySem.W.exmOne K (.ref C) c = some true ∧ pp (.ref C) none ∧ PySem.W.kitOne K (.ref C) (.type "ValueError") = some true ∧ PySem.W.kitAny K (.ref C) [.ref C1, .ref C2] = some false ∧ i < e.length ∧ P.rt (.dat (.bool true)) s⟩) :
    Ws K W (fun D σ H => tb (wAs K c i (fun a cls d => Pm.tWhen (pp cls d) (tRet (tAndV (tCB (rIsE K (Pm.adr cls) a) (tCons (tVar i) (tCons (tC (.ty "ValueError")) tNil))) (tNotV (tCB (Pm.rIsEM K (Pm.adr cls) a) (tCons (tVar i) (tCons (tTup (tCons (tC (.ref C1)) (tCons (tC (.ref C2)) tNil))) tNil))))))) Wout D) D σ H) es st P := .mk fun {G H ρ σ D} S T k =>
  (h _).run S T ⟨k.nx, k.bk, k.ct, k.rt, fun G' H' ρ' σ' es' C s ⟨e1, e2, e3, e4, hi, hx⟩ m S' T' => by
    have hl : i < σ'.length := by
      rw [← T'.len]
      exact hi
    refine ⟨true, e1, fun _ a ha => ⟨e2, .ref a, List.getElem?_set_self hl, .ty "ValueError", .type "ValueError", true, rfl, fun u hu => hu, e3, true, rfl, ?_⟩, fun z => nomatch z⟩
    rw [if_pos rfl]
    refine ⟨.ref a, List.getElem?_set_self hl, Nat.le_of_ble_eq_true rfl, fun p hp => ?_⟩
    obtain ⟨S2, m2⟩ := S'.shared (.tup [.ref C1, .ref C2]) hp
    refine ⟨p, [.ref C1, .ref C2], [.ref C1, .ref C2], false, rfl, upd_same, fun us hu => ?_, e4, false, rfl, ?_⟩
    · cases hu with
      | cons r1 h2 =>
        cases h2 with
        | cons r2 h3 =>
          cases h3
          cases r1
          cases r2
          rfl
    · exact k.rt _ _ _ _ _ _ hx (m.trans m2) S2 (Dq.bl true)⟩
end
end Pv

namespace K06
open PySem PySem.Spec L2 Pu
open Evl (Ex rLenS rMax2 rListS)
open PyProof.Rows (envOfC)
def topS (i : Nat) : Stmt := PySem.Challenge.pw_rulesheet_k06_copied_and_filled.main.body.getD i (.Pass ⟨0, 0, 0, 0⟩)
abbrev s_area : Stmt := topS 8
theorem sc_area : FnScope ["one", "two", "rows", "columns", "row", "column"] ["one", "two"] (defScope s_area) := ⟨rfl, rfl, rfl, by decide +kernel, rfl, by decide +kernel, by decide +kernel⟩
abbrev s_inner_rules : Stmt := topS 9
theorem sc_inner_rules : FnScope ["rule", "at"] ["rule"] (defScope s_inner_rules) := ⟨rfl, rfl, rfl, by decide +kernel, rfl, by decide +kernel, by decide +kernel⟩
abbrev s_references : Stmt := topS 10
theorem sc_references : FnScope ["rule", "at"] ["rule"] (defScope s_references) := ⟨rfl, rfl, rfl, by decide +kernel, rfl, by decide +kernel, by decide +kernel⟩
abbrev s_outer_first : Stmt := topS 11
theorem sc_outer_first : FnScope ["rule", "found", "waiting", "one"] ["rule"] (defScope s_outer_first) := ⟨rfl, rfl, rfl, by decide +kernel, rfl, by decide +kernel, by decide +kernel⟩
abbrev s_all_references : Stmt := topS 12
theorem sc_all_references : FnScope ["rule", "one", "reference"] ["rule"] (defScope s_all_references) := ⟨rfl, rfl, rfl, by decide +kernel, rfl, by decide +kernel, by decide +kernel⟩
abbrev s_deep : Stmt := topS 13
theorem sc_deep : FnScope ["rule", "depth", "level", "one", "inner"] ["rule"] (defScope s_deep) := ⟨rfl, rfl, rfl, by decide +kernel, rfl, by decide +kernel, by decide +kernel⟩
abbrev s_moved : Stmt := topS 14
theorem sc_moved : FnScope ["reference", "down", "right", "row", "column", "row_stays", "column_stays"] ["reference", "down", "right"] (defScope s_moved) := ⟨rfl, rfl, rfl, by decide +kernel, rfl, by decide +kernel, by decide +kernel⟩
abbrev s_shifted : Stmt := topS 15
theorem sc_shifted : FnScope ["rule", "down", "right", "done", "one", "parts", "at"] ["rule", "down", "right"] (defScope s_shifted) := ⟨rfl, rfl, rfl, by decide +kernel, rfl, by decide +kernel, by decide +kernel⟩
abbrev s_Sheet_init : Stmt := inClass (topS 19) 0
theorem sc_Sheet_init : FnScope ["self", "high", "wide", "place"] ["self", "high", "wide"] (defScope s_Sheet_init) := ⟨rfl, rfl, rfl, by decide +kernel, rfl, by decide +kernel, by decide +kernel⟩
abbrev s_Sheet_places : Stmt := inClass (topS 19) 1
theorem sc_Sheet_places : FnScope ["self"] ["self"] (defScope s_Sheet_places) := ⟨rfl, rfl, rfl, by decide +kernel, rfl, by decide +kernel, by decide +kernel⟩
abbrev s_Sheet_rule : Stmt := inClass (topS 19) 2
theorem sc_Sheet_rule : FnScope ["self", "place"] ["self", "place"] (defScope s_Sheet_rule) := ⟨rfl, rfl, rfl, by decide +kernel, rfl, by decide +kernel, by decide +kernel⟩
abbrev s_Sheet_put : Stmt := inClass (topS 19) 3
theorem sc_Sheet_put : FnScope ["self", "place", "rule"] ["self", "place", "rule"] (defScope s_Sheet_put) := ⟨rfl, rfl, rfl, by decide +kernel, rfl, by decide +kernel, by decide +kernel⟩
abbrev s_Sheet_copied : Stmt := inClass (topS 19) 4
theorem sc_Sheet_copied : FnScope ["self", "source", "target"] ["self", "source", "target"] (defScope s_Sheet_copied) := ⟨rfl, rfl, rfl, by decide +kernel, rfl, by decide +kernel, by decide +kernel⟩
abbrev s_Sheet_filled : Stmt := inClass (topS 19) 5
theorem sc_Sheet_filled : FnScope ["self", "source", "one", "two", "place", "copies"] ["self", "source", "one", "two"] (defScope s_Sheet_filled) := ⟨rfl, rfl, rfl, by decide +kernel, rfl, by decide +kernel, by decide +kernel⟩
abbrev s_Sheet_copy : Stmt := inClass (topS 19) 6
theorem sc_Sheet_copy : FnScope ["self", "source", "target", "made"] ["self", "source", "target"] (defScope s_Sheet_copy) := ⟨rfl, rfl, rfl, by decide +kernel, rfl, by decide +kernel, by decide +kernel⟩
abbrev s_Sheet_refuse_references_off : Stmt := inClass (topS 19) 7
theorem sc_Sheet_refuse_references_off : FnScope ["self", "rule", "reference"] ["self", "rule"] (defScope s_Sheet_refuse_references_off) := ⟨rfl, rfl, rfl, by decide +kernel, rfl, by decide +kernel, by decide +kernel⟩
abbrev s_Sheet_refuse_off : Stmt := inClass (topS 19) 8
theorem sc_Sheet_refuse_off : FnScope ["self", "place"] ["self", "place"] (defScope s_Sheet_refuse_off) := ⟨rfl, rfl, rfl, by decide +kernel, rfl, by decide +kernel, by decide +kernel⟩
abbrev s__law_cell_at : Stmt := topS 21
theorem sc__law_cell_at : FnScope ["_law_script", "_law_k"] ["_law_script", "_law_k"] (defScope s__law_cell_at) := ⟨rfl, rfl, rfl, by decide +kernel, rfl, by decide +kernel, by decide +kernel⟩
abbrev s__law_ref_by : Stmt := topS 22
theorem sc__law_ref_by : FnScope ["_law_cell", "_law_high", "_law_wide"] ["_law_cell", "_law_high", "_law_wide"] (defScope s__law_ref_by) := ⟨rfl, rfl, rfl, by decide +kernel, rfl, by decide +kernel, by decide +kernel⟩
abbrev s__law_leaf_by : Stmt := topS 23
theorem sc__law_leaf_by : FnScope ["_law_cell", "_law_high", "_law_wide", "_law_more", "_law_one"] ["_law_cell", "_law_high", "_law_wide"] (defScope s__law_leaf_by) := ⟨rfl, rfl, rfl, by decide +kernel, rfl, by decide +kernel, by decide +kernel⟩
abbrev s__law_rule_by : Stmt := topS 24
theorem sc__law_rule_by : FnScope ["_law_cell", "_law_high", "_law_wide", "_law_more", "_law_one", "_law_two", "_law_other"] ["_law_cell", "_law_high", "_law_wide"] (defScope s__law_rule_by) := ⟨rfl, rfl, rfl, by decide +kernel, rfl, by decide +kernel, by decide +kernel⟩
abbrev s__law_same : Stmt := topS 25
theorem sc__law_same : FnScope ["_law_found", "_law_due_here", "_law_k"] ["_law_found", "_law_due_here"] (defScope s__law_same) := ⟨rfl, rfl, rfl, by decide +kernel, rfl, by decide +kernel, by decide +kernel⟩
abbrev s__law_wrapped : Stmt := topS 26
theorem sc__law_wrapped : FnScope ["_law_rule", "_law_cell", "_law_many", "_law_k", "_law_way"] ["_law_rule", "_law_cell", "_law_many"] (defScope s__law_wrapped) := ⟨rfl, rfl, rfl, by decide +kernel, rfl, by decide +kernel, by decide +kernel⟩
abbrev s__law_is_ref : Stmt := topS 27
theorem sc__law_is_ref : FnScope ["_law_part"] ["_law_part"] (defScope s__law_is_ref) := ⟨rfl, rfl, rfl, by decide +kernel, rfl, by decide +kernel, by decide +kernel⟩
abbrev s__law_moved : Stmt := topS 28
theorem sc__law_moved : FnScope ["_law_part", "_law_down", "_law_right", "_law_one"] ["_law_part", "_law_down", "_law_right"] (defScope s__law_moved) := ⟨rfl, rfl, rfl, by decide +kernel, rfl, by decide +kernel, by decide +kernel⟩
abbrev s__law_lies : Stmt := topS 29
theorem sc__law_lies : FnScope ["_law_part", "_law_high", "_law_wide", "_law_one"] ["_law_part", "_law_high", "_law_wide"] (defScope s__law_lies) := ⟨rfl, rfl, rfl, by decide +kernel, rfl, by decide +kernel, by decide +kernel⟩
abbrev s__law_drawn_rule : Stmt := topS 30
theorem sc__law_drawn_rule : FnScope ["_law_script", "_law_k", "_law_high", "_law_wide", "_law_cell", "_law_rule"] ["_law_script", "_law_k", "_law_high", "_law_wide"] (defScope s__law_drawn_rule) := ⟨rfl, rfl, rfl, by decide +kernel, rfl, by decide +kernel, by decide +kernel⟩
abbrev s__law_on : Stmt := topS 31
theorem sc__law_on : FnScope ["_law_place", "_law_high", "_law_wide"] ["_law_place", "_law_high", "_law_wide"] (defScope s__law_on) := ⟨rfl, rfl, rfl, by decide +kernel, rfl, by decide +kernel, by decide +kernel⟩
abbrev s__law_due : Stmt := topS 32
theorem sc__law_due : FnScope ["_law_kept", "_law_corners_here", "_law_high", "_law_wide", "_law_place", "_law_source", "_law_rows", "_law_columns", "_law_due_here", "_law_inside"] ["_law_kept", "_law_corners_here", "_law_high", "_law_wide"] (defScope s__law_due) := ⟨rfl, rfl, rfl, by decide +kernel, rfl, by decide +kernel, by decide +kernel⟩
abbrev s__law_done : Stmt := topS 33
theorem sc__law_done : FnScope ["_law_sheet", "_law_corners_here", "_law_alone"] ["_law_sheet", "_law_corners_here", "_law_alone"] (defScope s__law_done) := ⟨rfl, rfl, rfl, by decide +kernel, rfl, by decide +kernel, by decide +kernel⟩
abbrev s__law_refused_by_any : Stmt := topS 34
theorem sc__law_refused_by_any : FnScope ["_law_sheet", "_law_corners_here", "_law_alone", "e"] ["_law_sheet", "_law_corners_here", "_law_alone"] (defScope s__law_refused_by_any) := ⟨rfl, rfl, rfl, by decide +kernel, rfl, by decide +kernel, by decide +kernel⟩
abbrev s__law_corners : Stmt := topS 35
theorem sc__law_corners : FnScope ["_law_script", "_law_turn", "_law_high", "_law_wide", "_law_first", "_law_corners_here", "_law_k", "_law_odd", "_law_far"] ["_law_script", "_law_turn", "_law_high", "_law_wide"] (defScope s__law_corners) := ⟨rfl, rfl, rfl, by decide +kernel, rfl, by decide +kernel, by decide +kernel⟩
abbrev s__law_holds : Stmt := topS 36
theorem sc__law_holds : FnScope ["_law_sheet", "_law_kept", "_law_place"] ["_law_sheet", "_law_kept"] (defScope s__law_holds) := ⟨rfl, rfl, rfl, by decide +kernel, rfl, by decide +kernel, by decide +kernel⟩
abbrev s_law : Stmt := topS 37
theorem sc_law : FnScope ["_law_script", "_law_high", "_law_wide", "_law_sheet", "_law_kept", "_law_k", "_law_origin", "_law_turn", "_law_at", "_law_corners_here", "_law_way", "_law_due_here"] ["_law_script"] (defScope s_law) := ⟨rfl, rfl, rfl, by decide +kernel, rfl, by decide +kernel, by decide +kernel⟩
/-- what the top has left -/
structure Top (K : PySem.W.Frag) (mg : Str → Option Value) (w : World) where
  c_Sheet : Addr
  m_Sheet : mg "Sheet" = some (.ref c_Sheet)
  cl_Sheet : Cls K c_Sheet
  n_Sheet_high : NoAttr K c_Sheet "high"
  n_Sheet_wide : NoAttr K c_Sheet "wide"
  n_Sheet_rules : NoAttr K c_Sheet "_rules"
  a_area : Addr
  d_area : FuncData
  F_area : Fun K "area" "area" s_area a_area d_area
  b_area : Binds K d_area ["one", "two"] []
  m_area : mg "area" = some (.ref a_area)
  a_inner_rules : Addr
  d_inner_rules : FuncData
  F_inner_rules : Fun K "inner_rules" "inner_rules" s_inner_rules a_inner_rules d_inner_rules
  b_inner_rules : Binds K d_inner_rules ["rule"] []
  m_inner_rules : mg "inner_rules" = some (.ref a_inner_rules)
  a_references : Addr
  d_references : FuncData
  F_references : Fun K "references" "references" s_references a_references d_references
  b_references : Binds K d_references ["rule"] []
  m_references : mg "references" = some (.ref a_references)
  a_outer_first : Addr
  d_outer_first : FuncData
  F_outer_first : Fun K "outer_first" "outer_first" s_outer_first a_outer_first d_outer_first
  b_outer_first : Binds K d_outer_first ["rule"] []
  m_outer_first : mg "outer_first" = some (.ref a_outer_first)
  a_all_references : Addr
  d_all_references : FuncData
  F_all_references : Fun K "all_references" "all_references" s_all_references a_all_references d_all_references
  b_all_references : Binds K d_all_references ["rule"] []
  m_all_references : mg "all_references" = some (.ref a_all_references)
  a_deep : Addr
  d_deep : FuncData
  F_deep : Fun K "deep" "deep" s_deep a_deep d_deep
  b_deep : Binds K d_deep ["rule"] []
  m_deep : mg "deep" = some (.ref a_deep)
  a_moved : Addr
  d_moved : FuncData
  F_moved : Fun K "moved" "moved" s_moved a_moved d_moved
  b_moved : Binds K d_moved ["reference", "down", "right"] []
  m_moved : mg "moved" = some (.ref a_moved)
  a_shifted : Addr
  d_shifted : FuncData
  F_shifted : Fun K "shifted" "shifted" s_shifted a_shifted d_shifted
  b_shifted : Binds K d_shifted ["rule", "down", "right"] []
  m_shifted : mg "shifted" = some (.ref a_shifted)
  a_Sheet_init : Addr
  d_Sheet_init : FuncData
  F_Sheet_init : Fun K "__init__" "Sheet.__init__" s_Sheet_init a_Sheet_init d_Sheet_init
  b_Sheet_init : Binds K d_Sheet_init ["self", "high", "wide"] []
  K_Sheet : Mk K c_Sheet a_Sheet_init
  a_Sheet_places : Addr
  d_Sheet_places : FuncData
  F_Sheet_places : Fun K "places" "Sheet.places" s_Sheet_places a_Sheet_places d_Sheet_places
  b_Sheet_places : Binds K d_Sheet_places ["self"] []
  M_Sheet_places : Meth K c_Sheet "places" a_Sheet_places
  a_Sheet_rule : Addr
  d_Sheet_rule : FuncData
  F_Sheet_rule : Fun K "rule" "Sheet.rule" s_Sheet_rule a_Sheet_rule d_Sheet_rule
  b_Sheet_rule : Binds K d_Sheet_rule ["self", "place"] []
  M_Sheet_rule : Meth K c_Sheet "rule" a_Sheet_rule
  a_Sheet_put : Addr
  d_Sheet_put : FuncData
  F_Sheet_put : Fun K "put" "Sheet.put" s_Sheet_put a_Sheet_put d_Sheet_put
  b_Sheet_put : Binds K d_Sheet_put ["self", "place", "rule"] []
  M_Sheet_put : Meth K c_Sheet "put" a_Sheet_put
  a_Sheet_copied : Addr
  d_Sheet_copied : FuncData
  F_Sheet_copied : Fun K "copied" "Sheet.copied" s_Sheet_copied a_Sheet_copied d_Sheet_copied
  b_Sheet_copied : Binds K d_Sheet_copied ["self", "source", "target"] []
  M_Sheet_copied : Meth K c_Sheet "copied" a_Sheet_copied
  a_Sheet_filled : Addr
  d_Sheet_filled : FuncData
  F_Sheet_filled : Fun K "filled" "Sheet.filled" s_Sheet_filled a_Sheet_filled d_Sheet_filled
  b_Sheet_filled : Binds K d_Sheet_filled ["self", "source", "one", "two"] []
  M_Sheet_filled : Meth K c_Sheet "filled" a_Sheet_filled
  a_Sheet_copy : Addr
  d_Sheet_copy : FuncData
  F_Sheet_copy : Fun K "_copy" "Sheet._copy" s_Sheet_copy a_Sheet_copy d_Sheet_copy
  b_Sheet_copy : Binds K d_Sheet_copy ["self", "source", "target"] []
  M_Sheet_copy : Meth K c_Sheet "_copy" a_Sheet_copy
  a_Sheet_refuse_references_off : Addr
  d_Sheet_refuse_references_off : FuncData
  F_Sheet_refuse_references_off : Fun K "_refuse_references_off" "Sheet._refuse_references_off" s_Sheet_refuse_references_off a_Sheet_refuse_references_off d_Sheet_refuse_references_off
  b_Sheet_refuse_references_off : Binds K d_Sheet_refuse_references_off ["self", "rule"] []
  M_Sheet_refuse_references_off : Meth K c_Sheet "_refuse_references_off" a_Sheet_refuse_references_off
  a_Sheet_refuse_off : Addr
  d_Sheet_refuse_off : FuncData
  F_Sheet_refuse_off : Fun K "_refuse_off" "Sheet._refuse_off" s_Sheet_refuse_off a_Sheet_refuse_off d_Sheet_refuse_off
  b_Sheet_refuse_off : Binds K d_Sheet_refuse_off ["self", "place"] []
  M_Sheet_refuse_off : Meth K c_Sheet "_refuse_off" a_Sheet_refuse_off
  a__law_cell_at : Addr
  d__law_cell_at : FuncData
  F__law_cell_at : Fun K "_law_cell_at" "_law_cell_at" s__law_cell_at a__law_cell_at d__law_cell_at
  b__law_cell_at : Binds K d__law_cell_at ["_law_script", "_law_k"] []
  m__law_cell_at : mg "_law_cell_at" = some (.ref a__law_cell_at)
  a__law_ref_by : Addr
  d__law_ref_by : FuncData
  F__law_ref_by : Fun K "_law_ref_by" "_law_ref_by" s__law_ref_by a__law_ref_by d__law_ref_by
  b__law_ref_by : Binds K d__law_ref_by ["_law_cell", "_law_high", "_law_wide"] []
  m__law_ref_by : mg "_law_ref_by" = some (.ref a__law_ref_by)
  a__law_leaf_by : Addr
  d__law_leaf_by : FuncData
  F__law_leaf_by : Fun K "_law_leaf_by" "_law_leaf_by" s__law_leaf_by a__law_leaf_by d__law_leaf_by
  b__law_leaf_by : Binds K d__law_leaf_by ["_law_cell", "_law_high", "_law_wide"] []
  m__law_leaf_by : mg "_law_leaf_by" = some (.ref a__law_leaf_by)
  a__law_rule_by : Addr
  d__law_rule_by : FuncData
  F__law_rule_by : Fun K "_law_rule_by" "_law_rule_by" s__law_rule_by a__law_rule_by d__law_rule_by
  b__law_rule_by : Binds K d__law_rule_by ["_law_cell", "_law_high", "_law_wide"] []
  m__law_rule_by : mg "_law_rule_by" = some (.ref a__law_rule_by)
  a__law_same : Addr
  d__law_same : FuncData
  F__law_same : Fun K "_law_same" "_law_same" s__law_same a__law_same d__law_same
  b__law_same : Binds K d__law_same ["_law_found", "_law_due_here"] []
  m__law_same : mg "_law_same" = some (.ref a__law_same)
  a__law_wrapped : Addr
  d__law_wrapped : FuncData
  F__law_wrapped : Fun K "_law_wrapped" "_law_wrapped" s__law_wrapped a__law_wrapped d__law_wrapped
  b__law_wrapped : Binds K d__law_wrapped ["_law_rule", "_law_cell", "_law_many"] []
  m__law_wrapped : mg "_law_wrapped" = some (.ref a__law_wrapped)
  a__law_is_ref : Addr
  d__law_is_ref : FuncData
  F__law_is_ref : Fun K "_law_is_ref" "_law_is_ref" s__law_is_ref a__law_is_ref d__law_is_ref
  b__law_is_ref : Binds K d__law_is_ref ["_law_part"] []
  m__law_is_ref : mg "_law_is_ref" = some (.ref a__law_is_ref)
  a__law_moved : Addr
  d__law_moved : FuncData
  F__law_moved : Fun K "_law_moved" "_law_moved" s__law_moved a__law_moved d__law_moved
  b__law_moved : Binds K d__law_moved ["_law_part", "_law_down", "_law_right"] []
  m__law_moved : mg "_law_moved" = some (.ref a__law_moved)
  a__law_lies : Addr
  d__law_lies : FuncData
  F__law_lies : Fun K "_law_lies" "_law_lies" s__law_lies a__law_lies d__law_lies
  b__law_lies : Binds K d__law_lies ["_law_part", "_law_high", "_law_wide"] []
  m__law_lies : mg "_law_lies" = some (.ref a__law_lies)
  a__law_drawn_rule : Addr
  d__law_drawn_rule : FuncData
  F__law_drawn_rule : Fun K "_law_drawn_rule" "_law_drawn_rule" s__law_drawn_rule a__law_drawn_rule d__law_drawn_rule
  b__law_drawn_rule : Binds K d__law_drawn_rule ["_law_script", "_law_k", "_law_high", "_law_wide"] []
  m__law_drawn_rule : mg "_law_drawn_rule" = some (.ref a__law_drawn_rule)
  a__law_on : Addr
  d__law_on : FuncData
  F__law_on : Fun K "_law_on" "_law_on" s__law_on a__law_on d__law_on
  b__law_on : Binds K d__law_on ["_law_place", "_law_high", "_law_wide"] []
  m__law_on : mg "_law_on" = some (.ref a__law_on)
  a__law_due : Addr
  d__law_due : FuncData
  F__law_due : Fun K "_law_due" "_law_due" s__law_due a__law_due d__law_due
  b__law_due : Binds K d__law_due ["_law_kept", "_law_corners_here", "_law_high", "_law_wide"] []
  m__law_due : mg "_law_due" = some (.ref a__law_due)
  a__law_done : Addr
  d__law_done : FuncData
  F__law_done : Fun K "_law_done" "_law_done" s__law_done a__law_done d__law_done
  b__law_done : Binds K d__law_done ["_law_sheet", "_law_corners_here", "_law_alone"] []
  m__law_done : mg "_law_done" = some (.ref a__law_done)
  a__law_refused_by_any : Addr
  d__law_refused_by_any : FuncData
  F__law_refused_by_any : Fun K "_law_refused_by_any" "_law_refused_by_any" s__law_refused_by_any a__law_refused_by_any d__law_refused_by_any
  b__law_refused_by_any : Binds K d__law_refused_by_any ["_law_sheet", "_law_corners_here", "_law_alone"] []
  m__law_refused_by_any : mg "_law_refused_by_any" = some (.ref a__law_refused_by_any)
  a__law_corners : Addr
  d__law_corners : FuncData
  F__law_corners : Fun K "_law_corners" "_law_corners" s__law_corners a__law_corners d__law_corners
  b__law_corners : Binds K d__law_corners ["_law_script", "_law_turn", "_law_high", "_law_wide"] []
  m__law_corners : mg "_law_corners" = some (.ref a__law_corners)
  a__law_holds : Addr
  d__law_holds : FuncData
  F__law_holds : Fun K "_law_holds" "_law_holds" s__law_holds a__law_holds d__law_holds
  b__law_holds : Binds K d__law_holds ["_law_sheet", "_law_kept"] []
  m__law_holds : mg "_law_holds" = some (.ref a__law_holds)
  a_law : Addr
  d_law : FuncData
  F_law : Fun K "law" "law" s_law a_law d_law
  b_law : Binds K d_law ["_law_script"] []
  m_law : mg "law" = some (.ref a_law)
  c_SheetError : Addr
  g_SheetError : mg "SheetError" = some (.ref c_SheetError)
  c_BadSize : Addr
  g_BadSize : mg "BadSize" = some (.ref c_BadSize)
  x_BadSize : PySem.W.excIn K c_BadSize [.type "ValueError", .type "Exception", .type "BaseException", .type "object"] "ValueError.__new__" = true
  k_BadSize : PySem.W.keepIn K (.ref c_BadSize) = true
  sb_BadSize : PySem.W.subIn K (.ref c_BadSize) (.type "BaseException") = some true
  ty_BadSize : PySem.W.typeIn K (.ref c_BadSize) = some (.type "type")
  c_OffSheet : Addr
  g_OffSheet : mg "OffSheet" = some (.ref c_OffSheet)
  x_OffSheet : PySem.W.excIn K c_OffSheet [.type "ValueError", .type "Exception", .type "BaseException", .type "object"] "ValueError.__new__" = true
  k_OffSheet : PySem.W.keepIn K (.ref c_OffSheet) = true
  sb_OffSheet : PySem.W.subIn K (.ref c_OffSheet) (.type "BaseException") = some true
  ty_OffSheet : PySem.W.typeIn K (.ref c_OffSheet) = some (.type "type")
  c_TooDeep : Addr
  g_TooDeep : mg "TooDeep" = some (.ref c_TooDeep)
  x_TooDeep : PySem.W.excIn K c_TooDeep [.type "ValueError", .type "Exception", .type "BaseException", .type "object"] "ValueError.__new__" = true
  k_TooDeep : PySem.W.keepIn K (.ref c_TooDeep) = true
  sb_TooDeep : PySem.W.subIn K (.ref c_TooDeep) (.type "BaseException") = some true
  ty_TooDeep : PySem.W.typeIn K (.ref c_TooDeep) = some (.type "type")
  e_BadSize_SheetError : PySem.W.exmOne K (.ref c_BadSize) (.ref c_SheetError) = some true
  e_BadSize_BadSize : PySem.W.exmOne K (.ref c_BadSize) (.ref c_BadSize) = some true
  e_BadSize_OffSheet : PySem.W.exmOne K (.ref c_BadSize) (.ref c_OffSheet) = some false
  e_BadSize_TooDeep : PySem.W.exmOne K (.ref c_BadSize) (.ref c_TooDeep) = some false
  e_OffSheet_SheetError : PySem.W.exmOne K (.ref c_OffSheet) (.ref c_SheetError) = some true
  e_OffSheet_BadSize : PySem.W.exmOne K (.ref c_OffSheet) (.ref c_BadSize) = some false
  e_OffSheet_OffSheet : PySem.W.exmOne K (.ref c_OffSheet) (.ref c_OffSheet) = some true
  e_OffSheet_TooDeep : PySem.W.exmOne K (.ref c_OffSheet) (.ref c_TooDeep) = some false
  e_TooDeep_SheetError : PySem.W.exmOne K (.ref c_TooDeep) (.ref c_SheetError) = some true
  e_TooDeep_BadSize : PySem.W.exmOne K (.ref c_TooDeep) (.ref c_BadSize) = some false
  e_TooDeep_OffSheet : PySem.W.exmOne K (.ref c_TooDeep) (.ref c_OffSheet) = some false
  e_TooDeep_TooDeep : PySem.W.exmOne K (.ref c_TooDeep) (.ref c_TooDeep) = some true
  xc_OffSheet : ExcC K c_OffSheet
  v_OffSheet : PySem.W.kitOne K (.ref c_OffSheet) (.type "ValueError") = some true
  z_ValueError : mg "ValueError" = none
  z_bool : mg "bool" = none
  z_int : mg "int" = none
  z_isinstance : mg "isinstance" = none
  z_len : mg "len" = none
  z_list : mg "list" = none
  z_max : mg "max" = none
  z_min : mg "min" = none
  z_range : mg "range" = none
  z_reversed : mg "reversed" = none
  z_str : mg "str" = none
  z_tuple : mg "tuple" = none
  t_LARGEST : Tok
  m_LARGEST : mg "LARGEST" = some (.int 12 t_LARGEST)
  t_DEEPEST : Tok
  m_DEEPEST : mg "DEEPEST" = some (.int 8 t_DEEPEST)
  r_RULES_AT : Addr
  m_RULES_AT : mg "RULES_AT" = some (.ref r_RULES_AT)
  D_RULES_AT_num : DTab K w r_RULES_AT "num" []
  D_RULES_AT_cell : DTab K w r_RULES_AT "cell" []
  D_RULES_AT_add : DTab K w r_RULES_AT "add" [1, 2]
  D_RULES_AT_sub : DTab K w r_RULES_AT "sub" [1, 2]
  D_RULES_AT_mul : DTab K w r_RULES_AT "mul" [1, 2]
  D_RULES_AT_pick : DTab K w r_RULES_AT "pick" [1, 2, 3]
  D_RULES_AT_sum : DTab K w r_RULES_AT "sum" []
  D_RULES_AT_most : DTab K w r_RULES_AT "most" []
  D_RULES_AT_look : DTab K w r_RULES_AT "look" [1, 4]
  r_REFERENCES_AT : Addr
  m_REFERENCES_AT : mg "REFERENCES_AT" = some (.ref r_REFERENCES_AT)
  D_REFERENCES_AT_num : DTab K w r_REFERENCES_AT "num" []
  D_REFERENCES_AT_cell : DTab K w r_REFERENCES_AT "cell" [1]
  D_REFERENCES_AT_add : DTab K w r_REFERENCES_AT "add" []
  D_REFERENCES_AT_sub : DTab K w r_REFERENCES_AT "sub" []
  D_REFERENCES_AT_mul : DTab K w r_REFERENCES_AT "mul" []
  D_REFERENCES_AT_pick : DTab K w r_REFERENCES_AT "pick" []
  D_REFERENCES_AT_sum : DTab K w r_REFERENCES_AT "sum" [1, 2]
  D_REFERENCES_AT_most : DTab K w r_REFERENCES_AT "most" [1, 2]
  D_REFERENCES_AT_look : DTab K w r_REFERENCES_AT "look" [2, 3]
section
variable {P : Program} {w : World} {K : PySem.W.Frag} {mg : Str → Option Value} {base : Heap}
/-- area -/
def B_area (T : Top K mg w) {k : Nat} {cdv : Value} {A : Around} {outer : List Env} {s : Shared} {H : Hp} {E : XK} (hr : Room k (A.deeper (envOfC "area" (defScope s_area) s.heap.objs.size T.a_area cdv))) :=
  (show PSs (cxOf CX0 P w K mg base ["one", "two", "rows", "columns", "row", "column"] "area" (defScope s_area) T.a_area cdv A outer s H E).nox (defBody s_area) _ from
    (pss_cons (ps_set (i := 2) sc_area.nd rfl (Or.inl rfl) (pe_callTy cr_range2 (by rfl) T.z_range (by decide +kernel) (pa_cons (pe_callB (call_min2 rfl) (by rfl) T.z_min (by decide +kernel) (pa_cons (pe_ix ix_tup (pv 0) pe_int (fun _ _ => rfl)) (pa_cons (pe_ix ix_tup (pv 1) pe_int (fun _ _ => rfl)) pa_nil))) (pa_cons (pe_op op_add (pe_callB (call_max2 rfl) (by rfl) T.z_max (by decide +kernel) (pa_cons (pe_ix ix_tup (pv 0) pe_int (fun _ _ => rfl)) (pa_cons (pe_ix ix_tup (pv 1) pe_int (fun _ _ => rfl)) pa_nil))) pe_int) pa_nil))))
      (pss_cons (ps_set (i := 3) sc_area.nd rfl (Or.inr rfl) (pe_callTy cr_range2 (by rfl) T.z_range (by decide +kernel) (pa_cons (pe_callB (call_min2 rfl) (by rfl) T.z_min (by decide +kernel) (pa_cons (pe_ix ix_tup (pv 0) pe_int (fun _ _ => rfl)) (pa_cons (pe_ix ix_tup (pv 1) pe_int (fun _ _ => rfl)) pa_nil))) (pa_cons (pe_op op_add (pe_callB (call_max2 rfl) (by rfl) T.z_max (by decide +kernel) (pa_cons (pe_ix ix_tup (pv 0) pe_int (fun _ _ => rfl)) (pa_cons (pe_ix ix_tup (pv 1) pe_int (fun _ _ => rfl)) pa_nil))) pe_int) pa_nil))))
      (pss_one (ps_ret (pe_lc2 (own := [("row", 4), ("column", 5)]) (vs1 := [5]) (g := gName 4) (g1 := gName 5) (tt := tYes) (tt1 := tYes) rfl sc_area.nd (pi_rngO (pv 2)) (blkOk_by (own := [("row", 4), ("column", 5)]) (N := ["one", "two", "rows", "columns", "row", "column"]) (sc := defScope s_area) (by decide +kernel)) (by decide) (fun _ _ _ _ _ => (pg_name (i := 4) sc_area.nd rfl (Or.inl rfl))) (fun _ _ _ _ _ => pts_nil) (fun _ _ _ _ _ => (pi_rngO (pv 3))) (fun _ _ _ _ _ => (pg_name (i := 5) sc_area.nd rfl (Or.inl rfl))) (fun _ _ _ _ _ => pts_nil) (fun _ _ _ _ _ => (pe_tup (pa_cons (pv 4) (pa_cons (pv 5) pa_nil))))))))))
/-- inner_rules -/
def B_inner_rules (T : Top K mg w) {k : Nat} {cdv : Value} {A : Around} {outer : List Env} {s : Shared} {H : Hp} {E : XK} (hr : Room k (A.deeper (envOfC "inner_rules" (defScope s_inner_rules) s.heap.objs.size T.a_inner_rules cdv))) :=
  (show PSs (cxOf CX0 P w K mg base ["rule", "at"] "inner_rules" (defScope s_inner_rules) T.a_inner_rules cdv A outer s H E).nox (defBody s_inner_rules) _ from
    (pss_one (ps_ret (pe_lc (own := [("at", 1)]) (g := gName 1) (tt := tYes) rfl sc_inner_rules.nd (pi_tup (pe_ix ix_kdict (pe_glob (v := V.ref T.r_RULES_AT) (by rfl) T.m_RULES_AT rfl) (pe_ix ix_tup (pv 0) pe_int (fun _ _ => rfl)) (fun _ _ => rfl))) (blkOk_by (own := [("at", 1)]) (N := ["rule", "at"]) (sc := defScope s_inner_rules) (by decide +kernel)) (fun _ _ _ _ _ => (pg_name (i := 1) sc_inner_rules.nd rfl (Or.inl rfl))) (fun _ _ _ _ _ => pts_nil) (fun _ _ _ _ _ => (pe_ix (ix_tupK (K := K) rfl) (pv 0) (pv 1) (fun _ _ => rfl)))))))
/-- references -/
def B_references (T : Top K mg w) {k : Nat} {cdv : Value} {A : Around} {outer : List Env} {s : Shared} {H : Hp} {E : XK} (hr : Room k (A.deeper (envOfC "references" (defScope s_references) s.heap.objs.size T.a_references cdv))) :=
  (show PSs (cxOf CX0 P w K mg base ["rule", "at"] "references" (defScope s_references) T.a_references cdv A outer s H E).nox (defBody s_references) _ from
    (pss_one (ps_ret (pe_lc (own := [("at", 1)]) (g := gName 1) (tt := tYes) rfl sc_references.nd (pi_tup (pe_ix ix_kdict (pe_glob (v := V.ref T.r_REFERENCES_AT) (by rfl) T.m_REFERENCES_AT rfl) (pe_ix ix_tup (pv 0) pe_int (fun _ _ => rfl)) (fun _ _ => rfl))) (blkOk_by (own := [("at", 1)]) (N := ["rule", "at"]) (sc := defScope s_references) (by decide +kernel)) (fun _ _ _ _ _ => (pg_name (i := 1) sc_references.nd rfl (Or.inl rfl))) (fun _ _ _ _ _ => pts_nil) (fun _ _ _ _ _ => (pe_ix (ix_tupK (K := K) rfl) (pv 0) (pv 1) (fun _ _ => rfl)))))))
/-- outer_first -/
def B_outer_first (T : Top K mg w) {j_inner_rules : Nat} {sp_inner_rules : Sp} {k : Nat} (G_inner_rules : FnOk P w K mg base CX0 j_inner_rules T.a_inner_rules T.d_inner_rules ["rule"] sp_inner_rules) (h_inner_rules : j_inner_rules ≤ k) {cdv : Value} {A : Around} {outer : List Env} {s : Shared} {H : Hp} {E : XK} (hr : Room k (A.deeper (envOfC "outer_first" (defScope s_outer_first) s.heap.objs.size T.a_outer_first cdv))) :=
  (show PSs (cxOf CX0 P w K mg base ["rule", "found", "waiting", "one"] "outer_first" (defScope s_outer_first) T.a_outer_first cdv A outer s H E).nox (defBody s_outer_first) _ from
    (pss_cons (ps_set (i := 1) sc_outer_first.nd rfl (Or.inl rfl) (pe_lst pa_nil))
      (pss_cons (ps_set (i := 2) sc_outer_first.nd rfl (Or.inl rfl) (pe_lst (pa_cons (pv 0) pa_nil)))
      (pss_cons (ps_while PassesOwn.never (pt_tru (K := K) rfl (pv 2) (by intro _; rfl)) (pss_cons (ps_set (i := 3) sc_outer_first.nd rfl (Or.inl rfl) (pe_bm0 PySem.F.plainAttrs_list PySem.F.slot_list_pop PySem.F.type_list_pop mt_pop (pv 2)))
      (pss_cons (ps_expr (pe_bm PySem.F.plainAttrs_list PySem.F.slot_list_append PySem.F.type_list_append mt_append (pv 1) (pa_cons (pv 3) pa_nil)))
      (pss_one (ps_expr (pe_bm PySem.F.plainAttrs_list PySem.F.slot_list_extend PySem.F.type_list_extend mt_extend (pv 2) (pa_cons (pe_call G_inner_rules (hr.mono (by omega)) (by rfl) T.m_inner_rules T.F_inner_rules.kp T.b_inner_rules .nil pass0 (pa_cons (pv 3) pa_nil)) pa_nil)))))))
      (pss_one (ps_ret (pv 1)))))))
/-- all_references -/
def B_all_references (T : Top K mg w) {j_outer_first : Nat} {sp_outer_first : Sp} {j_references : Nat} {sp_references : Sp} {k : Nat} (G_outer_first : FnOk P w K mg base CX0 j_outer_first T.a_outer_first T.d_outer_first ["rule"] sp_outer_first) (h_outer_first : j_outer_first ≤ k) (G_references : FnOk P w K mg base CX0 j_references T.a_references T.d_references ["rule"] sp_references) (h_references : j_references ≤ k) {cdv : Value} {A : Around} {outer : List Env} {s : Shared} {H : Hp} {E : XK} (hr : Room k (A.deeper (envOfC "all_references" (defScope s_all_references) s.heap.objs.size T.a_all_references cdv))) :=
  (show PSs (cxOf CX0 P w K mg base ["rule", "one", "reference"] "all_references" (defScope s_all_references) T.a_all_references cdv A outer s H E).nox (defBody s_all_references) _ from
    (pss_one (ps_ret (pe_lc2 (own := [("one", 1), ("reference", 2)]) (vs1 := [2]) (g := gName 1) (g1 := gName 2) (tt := tYes) (tt1 := tYes) rfl sc_all_references.nd (pi_list (pe_call G_outer_first (hr.mono (by omega)) (by rfl) T.m_outer_first T.F_outer_first.kp T.b_outer_first .nil pass0 (pa_cons (pv 0) pa_nil))) (blkOk_by (own := [("one", 1), ("reference", 2)]) (N := ["rule", "one", "reference"]) (sc := defScope s_all_references) (by decide +kernel)) (by decide) (fun _ _ _ _ _ => (pg_name (i := 1) sc_all_references.nd rfl (Or.inl rfl))) (fun _ _ _ _ _ => pts_nil) (fun _ _ _ _ _ => (pi_listK (K := K) rfl (pe_call G_references (hr.mono (by omega)) (by rfl) T.m_references T.F_references.kp T.b_references .nil pass0 (pa_cons (pv 1) pa_nil)))) (fun _ _ _ _ _ => (pg_name (i := 2) sc_all_references.nd rfl (Or.inl rfl))) (fun _ _ _ _ _ => pts_nil) (fun _ _ _ _ _ => (pv 2))))))
/-- deep -/
def B_deep (T : Top K mg w) {j_inner_rules : Nat} {sp_inner_rules : Sp} {k : Nat} (G_inner_rules : FnOk P w K mg base CX0 j_inner_rules T.a_inner_rules T.d_inner_rules ["rule"] sp_inner_rules) (h_inner_rules : j_inner_rules ≤ k) {cdv : Value} {A : Around} {outer : List Env} {s : Shared} {H : Hp} {E : XK} (hr : Room k (A.deeper (envOfC "deep" (defScope s_deep) s.heap.objs.size T.a_deep cdv))) :=
  (show PSs (cxOf CX0 P w K mg base ["rule", "depth", "level", "one", "inner"] "deep" (defScope s_deep) T.a_deep cdv A outer s H E).nox (defBody s_deep) _ from
    (pss_cons (ps_set (i := 1) sc_deep.nd rfl (Or.inl rfl) pe_int)
      (pss_cons (ps_set (i := 2) sc_deep.nd rfl (Or.inl rfl) (pe_lst (pa_cons (pv 0) pa_nil)))
      (pss_cons (ps_while PassesOwn.never (pt_tru (K := K) rfl (pv 2) (by intro _; rfl)) (pss_cons (ps_aug (i := 1) sc_deep.nd rfl (Or.inl rfl) pe_int ip_add)
      (pss_one (ps_setLc2 (i := 2) (own := [("one", 3), ("inner", 4)]) (vs1 := [4]) (g := gName 3) (g1 := gName 4) (tt := tYes) (tt1 := tYes) rfl sc_deep.nd rfl rfl (sw_true rfl rfl rfl (by decide +kernel)) (pi_list (pv 2)) (blkOk_by (own := [("one", 3), ("inner", 4)]) (N := ["rule", "depth", "level", "one", "inner"]) (sc := defScope s_deep) (by decide +kernel)) (by decide) (fun _ _ _ _ _ => (pg_name (i := 3) sc_deep.nd rfl (Or.inl rfl))) (fun _ _ _ _ _ => pts_nil) (fun _ _ _ _ _ => (pi_listK (K := K) rfl (pe_call G_inner_rules (hr.mono (by omega)) (by rfl) T.m_inner_rules T.F_inner_rules.kp T.b_inner_rules .nil pass0 (pa_cons (pv 3) pa_nil)))) (fun _ _ _ _ _ => (pg_name (i := 4) sc_deep.nd rfl (Or.inl rfl))) (fun _ _ _ _ _ => pts_nil) (fun _ _ _ _ _ => (pv 4))))))
      (pss_one (ps_ret (pv 1)))))))
/-- moved -/
def B_moved (T : Top K mg w) {k : Nat} {cdv : Value} {A : Around} {outer : List Env} {s : Shared} {H : Hp} {E : XK} (hr : Room k (A.deeper (envOfC "moved" (defScope s_moved) s.heap.objs.size T.a_moved cdv))) :=
  (show PSs (cxOf CX0 P w K mg base ["reference", "down", "right", "row", "column", "row_stays", "column_stays"] "moved" (defScope s_moved) T.a_moved cdv A outer s H E).nox (defBody s_moved) _ from
    (pss_cons (ps_asg (pv 0) (pg_tup rfl (pgs_cons (pg_name (i := 3) sc_moved.nd rfl (Or.inl rfl)) (pgs_cons (pg_name (i := 4) sc_moved.nd rfl (Or.inl rfl)) (pgs_cons (pg_name (i := 5) sc_moved.nd rfl (Or.inl rfl)) (pgs_cons (pg_name (i := 6) sc_moved.nd rfl (Or.inl rfl)) pgs_nil))))))
      (pss_cons (ps_if (pt_not (pt_tru (K := K) rfl (pv 5) (by intro _; rfl))) (pss_one (ps_set (i := 3) sc_moved.nd rfl (Or.inl rfl) (pe_op op_add (pv 3) (pv 1)))) pss_nil)
      (pss_cons (ps_if (pt_not (pt_tru (K := K) rfl (pv 6) (by intro _; rfl))) (pss_one (ps_set (i := 4) sc_moved.nd rfl (Or.inl rfl) (pe_op op_add (pv 4) (pv 2)))) pss_nil)
      (pss_one (ps_ret (pe_tup (pa_cons (pv 3) (pa_cons (pv 4) (pa_cons (pv 5) (pa_cons (pv 6) pa_nil)))))))))))
/-- shifted -/
def B_shifted (T : Top K mg w) {j_moved : Nat} {sp_moved : Sp} {j_outer_first : Nat} {sp_outer_first : Sp} {k : Nat} (G_moved : FnOk P w K mg base CX0 j_moved T.a_moved T.d_moved ["reference", "down", "right"] sp_moved) (h_moved : j_moved ≤ k) (G_outer_first : FnOk P w K mg base CX0 j_outer_first T.a_outer_first T.d_outer_first ["rule"] sp_outer_first) (h_outer_first : j_outer_first ≤ k) {cdv : Value} {A : Around} {outer : List Env} {s : Shared} {H : Hp} {E : XK} (hr : Room k (A.deeper (envOfC "shifted" (defScope s_shifted) s.heap.objs.size T.a_shifted cdv))) :=
  (show PSs (cxOf CX0 P w K mg base ["rule", "down", "right", "done", "one", "parts", "at"] "shifted" (defScope s_shifted) T.a_shifted cdv A outer s H E).nox (defBody s_shifted) _ from
    (pss_cons (ps_set (i := 3) sc_shifted.nd rfl (Or.inl rfl) (pe_lst pa_nil))
      (pss_cons (ps_for PassesOwn.never rfl (RT.pi_revA rfl T.z_reversed (pe_call G_outer_first (hr.mono (by omega)) (by rfl) T.m_outer_first T.F_outer_first.kp T.b_outer_first .nil pass0 (pa_cons (pv 0) pa_nil))) (pg_name (i := 4) sc_shifted.nd rfl (Or.inl rfl)) (pss_cons (ps_set (i := 5) sc_shifted.nd rfl (Or.inl rfl) (pe_callTy call_list_of (by rfl) T.z_list (by decide +kernel) (pa_cons (pv 4) pa_nil)))
      (pss_cons (ps_for PassesOwn.never rfl (pi_tup (pe_ix ix_kdict (pe_glob (v := V.ref T.r_REFERENCES_AT) (by rfl) T.m_REFERENCES_AT rfl) (pe_ix ix_tup (pv 4) pe_int (fun _ _ => rfl)) (fun _ _ => rfl))) (pg_name (i := 6) sc_shifted.nd rfl (Or.inl rfl)) (pss_one (ps_asg (pe_call G_moved (hr.mono (by omega)) (by rfl) T.m_moved T.F_moved.kp T.b_moved .nil pass0 (pa_cons (pe_ix ix_list (pv 5) (pv 6) (fun _ _ => rfl)) (pa_cons (pv 1) (pa_cons (pv 2) pa_nil)))) (pg_sub (pv 5) (pv 6) set_list))))
      (pss_cons (ps_for PassesOwn.never rfl (RT.pi_revA rfl T.z_reversed (pe_ix ix_kdict (pe_glob (v := V.ref T.r_RULES_AT) (by rfl) T.m_RULES_AT rfl) (pe_ix ix_tup (pv 4) pe_int (fun _ _ => rfl)) (fun _ _ => rfl))) (pg_name (i := 6) sc_shifted.nd rfl (Or.inl rfl)) (pss_one (ps_asg (pe_bm0 PySem.F.plainAttrs_list PySem.F.slot_list_pop PySem.F.type_list_pop mt_pop (pv 3)) (pg_sub (pv 5) (pv 6) set_list))))
      (pss_one (ps_expr (pe_bm PySem.F.plainAttrs_list PySem.F.slot_list_append PySem.F.type_list_append mt_append (pv 3) (pa_cons (pe_callTy call_tuple_of (by rfl) T.z_tuple (by decide +kernel) (pa_cons (pv 5) pa_nil)) pa_nil))))))))
      (pss_one (ps_ret (pe_ix ix_list (pv 3) pe_int (fun _ _ => rfl)))))))
/-- Sheet_init -/
def B_Sheet_init (T : Top K mg w) {j_Sheet_places : Nat} {sp_Sheet_places : Sp} {k : Nat} (G_Sheet_places : FnOk P w K mg base CX0 j_Sheet_places T.a_Sheet_places T.d_Sheet_places ["self"] sp_Sheet_places) (h_Sheet_places : j_Sheet_places ≤ k) {cdv : Value} {A : Around} {outer : List Env} {s : Shared} {H : Hp} {E : XK} (hr : Room k (A.deeper (envOfC "Sheet.__init__" (defScope s_Sheet_init) s.heap.objs.size T.a_Sheet_init cdv))) :=
  (show PSs (cxOf (L2.CX P w) P w K mg base ["self", "high", "wide", "place"] "Sheet.__init__" (defScope s_Sheet_init) T.a_Sheet_init cdv A outer s H E) (defBody s_Sheet_init) _ from
    (pss_cons (ps_if (pt_not (PW.pt (pw_and (pt_chain op_le op_le pe_int (pv 1) (pe_glob (v := V.int 12) (by rfl) T.m_LARGEST ⟨_, rfl⟩)) (pw_and1 (pt_chain op_le op_le pe_int (pv 2) (pe_glob (v := V.int 12) (by rfl) T.m_LARGEST ⟨_, rfl⟩)))))) (pss_one (ps_raise rfl (takes_of rfl rfl rfl rfl) (SkE.pmk_own1 PySem.F.excBase_ValueError T.x_BadSize T.g_BadSize T.k_BadSize (raises_own T.sb_BadSize T.ty_BadSize) (by exact rfl) (pe_joined (PJ.cons pe_str (PJ.cons (pe_fmt (pe_glob (v := V.int 12) (by rfl) T.m_LARGEST ⟨_, rfl⟩)) (PJ.cons pe_str (PJ.cons (pe_fmt (pe_glob (v := V.int 12) (by rfl) T.m_LARGEST ⟨_, rfl⟩)) (PJ.cons pe_str PJ.nil))))))))) pss_nil)
      (pss_cons (ps_fld (pv 0) (pv 1) rfl)
      (pss_cons (ps_fld (pv 0) (pv 2) rfl)
      (pss_one (ps_fld (pv 0) (Pm.pe_dcT (own := [("place", 3)]) (g := gName 3) (tt := tYes) rfl sc_Sheet_init.nd (hu_of hr) (pi_list (pe_meth0 (pv 0) T.cl_Sheet T.M_Sheet_places G_Sheet_places (hr.mono (by omega)) T.b_Sheet_places .nil pass0)) (blkOk_by (own := [("place", 3)]) (N := ["self", "high", "wide", "place"]) (sc := defScope s_Sheet_init) (by decide +kernel)) (fun _ _ _ _ _ => (pg_name (i := 3) sc_Sheet_init.nd rfl (Or.inl rfl))) (fun _ _ _ _ _ => pts_nil) (fun _ _ _ _ _ => (pv 3)) (fun _ _ _ _ _ => (pe_tup (pa_cons pe_str (pa_cons pe_int pa_nil))))) rfl))))))
/-- Sheet_places -/
def B_Sheet_places (T : Top K mg w) {j_area : Nat} {sp_area : Sp} {k : Nat} (G_area : FnOk P w K mg base CX0 j_area T.a_area T.d_area ["one", "two"] sp_area) (h_area : j_area ≤ k) {cdv : Value} {A : Around} {outer : List Env} {s : Shared} {H : Hp} {E : XK} (hr : Room k (A.deeper (envOfC "Sheet.places" (defScope s_Sheet_places) s.heap.objs.size T.a_Sheet_places cdv))) :=
  (show PSs (cxOf CX0 P w K mg base ["self"] "Sheet.places" (defScope s_Sheet_places) T.a_Sheet_places cdv A outer s H E).nox (defBody s_Sheet_places) _ from
    (pss_one (ps_ret (pe_call G_area (hr.mono (by omega)) (by rfl) T.m_area T.F_area.kp T.b_area .nil pass0 (pa_cons (pe_tup (pa_cons pe_int (pa_cons pe_int pa_nil))) (pa_cons (pe_tup (pa_cons (pe_op op_sub (pe_fld (pv 0) rfl) pe_int) (pa_cons (pe_op op_sub (pe_fld (pv 0) rfl) pe_int) pa_nil))) pa_nil))))))
/-- Sheet_rule -/
def B_Sheet_rule (T : Top K mg w) {j_Sheet_refuse_off : Nat} {sp_Sheet_refuse_off : Sp} {k : Nat} (G_Sheet_refuse_off : FnOk P w K mg base (L2.CX P w) j_Sheet_refuse_off T.a_Sheet_refuse_off T.d_Sheet_refuse_off ["self", "place"] sp_Sheet_refuse_off) (h_Sheet_refuse_off : j_Sheet_refuse_off ≤ k) {cdv : Value} {A : Around} {outer : List Env} {s : Shared} {H : Hp} {E : XK} (hr : Room k (A.deeper (envOfC "Sheet.rule" (defScope s_Sheet_rule) s.heap.objs.size T.a_Sheet_rule cdv))) :=
  (show PSs (cxOf (L2.CX P w) P w K mg base ["self", "place"] "Sheet.rule" (defScope s_Sheet_rule) T.a_Sheet_rule cdv A outer s H E) (defBody s_Sheet_rule) _ from
    (pss_cons (ps_expr (pe_meth (pv 0) T.cl_Sheet T.M_Sheet_refuse_off G_Sheet_refuse_off (hr.mono (by omega)) T.b_Sheet_refuse_off .nil (passes_call (takes_of rfl rfl rfl rfl) (fun _ _ _ _ h => h)) (pa_cons (pv 1) pa_nil)))
      (pss_one (ps_ret (pe_dget (hu_of hr) (pe_fld (pv 0) rfl) (pv 1) (fun _ _ => rfl))))))
/-- Sheet_put -/
def B_Sheet_put (T : Top K mg w) {j_Sheet_refuse_off : Nat} {sp_Sheet_refuse_off : Sp} {j_Sheet_refuse_references_off : Nat} {sp_Sheet_refuse_references_off : Sp} {j_deep : Nat} {sp_deep : Sp} {k : Nat} (G_Sheet_refuse_off : FnOk P w K mg base (L2.CX P w) j_Sheet_refuse_off T.a_Sheet_refuse_off T.d_Sheet_refuse_off ["self", "place"] sp_Sheet_refuse_off) (h_Sheet_refuse_off : j_Sheet_refuse_off ≤ k) (G_Sheet_refuse_references_off : FnOk P w K mg base (L2.CX P w) j_Sheet_refuse_references_off T.a_Sheet_refuse_references_off T.d_Sheet_refuse_references_off ["self", "rule"] sp_Sheet_refuse_references_off) (h_Sheet_refuse_references_off : j_Sheet_refuse_references_off ≤ k) (G_deep : FnOk P w K mg base CX0 j_deep T.a_deep T.d_deep ["rule"] sp_deep) (h_deep : j_deep ≤ k) {cdv : Value} {A : Around} {outer : List Env} {s : Shared} {H : Hp} {E : XK} (hr : Room k (A.deeper (envOfC "Sheet.put" (defScope s_Sheet_put) s.heap.objs.size T.a_Sheet_put cdv))) :=
  (show PSs (cxOf (L2.CX P w) P w K mg base ["self", "place", "rule"] "Sheet.put" (defScope s_Sheet_put) T.a_Sheet_put cdv A outer s H E) (defBody s_Sheet_put) _ from
    (pss_cons (ps_expr (pe_meth (pv 0) T.cl_Sheet T.M_Sheet_refuse_off G_Sheet_refuse_off (hr.mono (by omega)) T.b_Sheet_refuse_off .nil (passes_call (takes_of rfl rfl rfl rfl) (fun _ _ _ _ h => h)) (pa_cons (pv 1) pa_nil)))
      (pss_cons (ps_if (pt_cmpR op_gt (pe_call G_deep (hr.mono (by omega)) (by rfl) T.m_deep T.F_deep.kp T.b_deep .nil pass0 (pa_cons (pv 2) pa_nil)) (pe_glob (v := V.int 8) (by rfl) T.m_DEEPEST ⟨_, rfl⟩) (nomark _)) (pss_one (ps_raise rfl (takes_of rfl rfl rfl rfl) (SkE.pmk_own1 PySem.F.excBase_ValueError T.x_TooDeep T.g_TooDeep T.k_TooDeep (raises_own T.sb_TooDeep T.ty_TooDeep) (by exact rfl) (pe_joined (PJ.cons pe_str (PJ.cons (pe_fmt (pe_glob (v := V.int 8) (by rfl) T.m_DEEPEST ⟨_, rfl⟩)) (PJ.cons pe_str PJ.nil))))))) pss_nil)
      (pss_cons (ps_expr (pe_meth (pv 0) T.cl_Sheet T.M_Sheet_refuse_references_off G_Sheet_refuse_references_off (hr.mono (by omega)) T.b_Sheet_refuse_references_off .nil (passes_call (takes_of rfl rfl rfl rfl) (fun _ _ _ _ h => h)) (pa_cons (pv 2) pa_nil)))
      (pss_one (ps_dput (hu_of hr) (pe_fld (pv 0) rfl) (pv 1) (pv 2) rfl))))))
/-- Sheet_copied -/
def B_Sheet_copied (T : Top K mg w) {j_Sheet_copy : Nat} {sp_Sheet_copy : Sp} {j_Sheet_refuse_off : Nat} {sp_Sheet_refuse_off : Sp} {k : Nat} (G_Sheet_copy : FnOk P w K mg base (L2.CX P w) j_Sheet_copy T.a_Sheet_copy T.d_Sheet_copy ["self", "source", "target"] sp_Sheet_copy) (h_Sheet_copy : j_Sheet_copy ≤ k) (G_Sheet_refuse_off : FnOk P w K mg base (L2.CX P w) j_Sheet_refuse_off T.a_Sheet_refuse_off T.d_Sheet_refuse_off ["self", "place"] sp_Sheet_refuse_off) (h_Sheet_refuse_off : j_Sheet_refuse_off ≤ k) {cdv : Value} {A : Around} {outer : List Env} {s : Shared} {H : Hp} {E : XK} (hr : Room k (A.deeper (envOfC "Sheet.copied" (defScope s_Sheet_copied) s.heap.objs.size T.a_Sheet_copied cdv))) :=
  (show PSs (cxOf (L2.CX P w) P w K mg base ["self", "source", "target"] "Sheet.copied" (defScope s_Sheet_copied) T.a_Sheet_copied cdv A outer s H E) (defBody s_Sheet_copied) _ from
    (pss_cons (ps_expr (pe_meth (pv 0) T.cl_Sheet T.M_Sheet_refuse_off G_Sheet_refuse_off (hr.mono (by omega)) T.b_Sheet_refuse_off .nil (passes_call (takes_of rfl rfl rfl rfl) (fun _ _ _ _ h => h)) (pa_cons (pv 1) pa_nil)))
      (pss_cons (ps_expr (pe_meth (pv 0) T.cl_Sheet T.M_Sheet_refuse_off G_Sheet_refuse_off (hr.mono (by omega)) T.b_Sheet_refuse_off .nil (passes_call (takes_of rfl rfl rfl rfl) (fun _ _ _ _ h => h)) (pa_cons (pv 2) pa_nil)))
      (pss_one (ps_dput (hu_of hr) (pe_fld (pv 0) rfl) (pv 2) (pe_meth (pv 0) T.cl_Sheet T.M_Sheet_copy G_Sheet_copy (hr.mono (by omega)) T.b_Sheet_copy .nil (passes_call (takes_of rfl rfl rfl rfl) (fun _ _ _ _ h => h)) (pa_cons (pv 1) (pa_cons (pv 2) pa_nil))) rfl)))))
/-- Sheet_filled -/
def B_Sheet_filled (T : Top K mg w) {j_Sheet_copy : Nat} {sp_Sheet_copy : Sp} {j_Sheet_refuse_off : Nat} {sp_Sheet_refuse_off : Sp} {j_area : Nat} {sp_area : Sp} {k : Nat} (G_Sheet_copy : FnOk P w K mg base (L2.CX P w) j_Sheet_copy T.a_Sheet_copy T.d_Sheet_copy ["self", "source", "target"] sp_Sheet_copy) (h_Sheet_copy : j_Sheet_copy ≤ k) (G_Sheet_refuse_off : FnOk P w K mg base (L2.CX P w) j_Sheet_refuse_off T.a_Sheet_refuse_off T.d_Sheet_refuse_off ["self", "place"] sp_Sheet_refuse_off) (h_Sheet_refuse_off : j_Sheet_refuse_off ≤ k) (G_area : FnOk P w K mg base CX0 j_area T.a_area T.d_area ["one", "two"] sp_area) (h_area : j_area ≤ k) {cdv : Value} {A : Around} {outer : List Env} {s : Shared} {H : Hp} {E : XK} (hr : Room k (A.deeper (envOfC "Sheet.filled" (defScope s_Sheet_filled) s.heap.objs.size T.a_Sheet_filled cdv))) :=
  (show PSs (cxOf (L2.CX P w) P w K mg base ["self", "source", "one", "two", "place", "copies"] "Sheet.filled" (defScope s_Sheet_filled) T.a_Sheet_filled cdv A outer s H E) (defBody s_Sheet_filled) _ from
    (pss_cons (ps_for (passes_of rfl) rfl (pi_tup (pe_tup (pa_cons (pv 1) (pa_cons (pv 2) (pa_cons (pv 3) pa_nil))))) (pg_name (i := 4) sc_Sheet_filled.nd rfl (Or.inl rfl)) (pss_one (ps_expr (pe_meth (pv 0) T.cl_Sheet T.M_Sheet_refuse_off G_Sheet_refuse_off (hr.mono (by omega)) T.b_Sheet_refuse_off .nil (passes_call (takes_of rfl rfl rfl rfl) (fun _ _ _ _ h => h)) (pa_cons (pv 4) pa_nil)))))
      (pss_cons (Pm.ps_setDcTX (i := 5) (own := [("place", 4)]) (g := gName 4) (tt := tYes) rfl sc_Sheet_filled.nd (hu_of hr) rfl rfl (takes_of rfl rfl rfl rfl) (fun _ _ _ _ h => h) (pi_list (pe_call G_area (hr.mono (by omega)) (by rfl) T.m_area T.F_area.kp T.b_area .nil pass0 (pa_cons (pv 2) (pa_cons (pv 3) pa_nil)))) (blkOk_by (own := [("place", 4)]) (N := ["self", "source", "one", "two", "place", "copies"]) (sc := defScope s_Sheet_filled) (by decide +kernel)) (fun _ _ _ _ _ _ => (pg_name (i := 4) sc_Sheet_filled.nd rfl (Or.inl rfl))) (fun _ _ _ _ _ _ => pts_nil) (fun _ _ _ _ _ _ => (pv 4)) (fun _ _ _ _ _ _ hp => (pe_meth (pv 0) T.cl_Sheet T.M_Sheet_copy G_Sheet_copy (hr.mono (by omega)) T.b_Sheet_copy .nil hp (pa_cons (pv 1) (pa_cons (pv 4) pa_nil)))) rfl rfl (Pm.sw_trueD rfl rfl rfl (by decide +kernel)))
      (pss_one (ps_lock (ps_for (passes_of rfl) rfl (pi_keys (pv 5)) (pg_name (i := 4) sc_Sheet_filled.nd rfl (Or.inl rfl)) (pss_one (ps_dput (hu_of hr) (pe_fld (pv 0) rfl) (pv 4) (pe_dget (hu_of hr) (pv 5) (pv 4) (fun _ _ => rfl)) rfl))))))))
/-- Sheet_copy -/
def B_Sheet_copy (T : Top K mg w) {j_Sheet_refuse_references_off : Nat} {sp_Sheet_refuse_references_off : Sp} {j_shifted : Nat} {sp_shifted : Sp} {k : Nat} (G_Sheet_refuse_references_off : FnOk P w K mg base (L2.CX P w) j_Sheet_refuse_references_off T.a_Sheet_refuse_references_off T.d_Sheet_refuse_references_off ["self", "rule"] sp_Sheet_refuse_references_off) (h_Sheet_refuse_references_off : j_Sheet_refuse_references_off ≤ k) (G_shifted : FnOk P w K mg base CX0 j_shifted T.a_shifted T.d_shifted ["rule", "down", "right"] sp_shifted) (h_shifted : j_shifted ≤ k) {cdv : Value} {A : Around} {outer : List Env} {s : Shared} {H : Hp} {E : XK} (hr : Room k (A.deeper (envOfC "Sheet._copy" (defScope s_Sheet_copy) s.heap.objs.size T.a_Sheet_copy cdv))) :=
  (show PSs (cxOf (L2.CX P w) P w K mg base ["self", "source", "target", "made"] "Sheet._copy" (defScope s_Sheet_copy) T.a_Sheet_copy cdv A outer s H E) (defBody s_Sheet_copy) _ from
    (pss_cons (ps_set (i := 3) sc_Sheet_copy.nd rfl (Or.inl rfl) (pe_call G_shifted (hr.mono (by omega)) (by rfl) T.m_shifted T.F_shifted.kp T.b_shifted .nil pass0 (pa_cons (pe_dget (hu_of hr) (pe_fld (pv 0) rfl) (pv 1) (fun _ _ => rfl)) (pa_cons (pe_op op_sub (pe_ix ix_tup (pv 2) pe_int (fun _ _ => rfl)) (pe_ix ix_tup (pv 1) pe_int (fun _ _ => rfl))) (pa_cons (pe_op op_sub (pe_ix ix_tup (pv 2) pe_int (fun _ _ => rfl)) (pe_ix ix_tup (pv 1) pe_int (fun _ _ => rfl))) pa_nil)))))
      (pss_cons (ps_expr (pe_meth (pv 0) T.cl_Sheet T.M_Sheet_refuse_references_off G_Sheet_refuse_references_off (hr.mono (by omega)) T.b_Sheet_refuse_references_off .nil (passes_call (takes_of rfl rfl rfl rfl) (fun _ _ _ _ h => h)) (pa_cons (pv 3) pa_nil)))
      (pss_one (ps_ret (pv 3))))))
/-- Sheet_refuse_references_off -/
def B_Sheet_refuse_references_off (T : Top K mg w) {j_Sheet_refuse_off : Nat} {sp_Sheet_refuse_off : Sp} {j_all_references : Nat} {sp_all_references : Sp} {k : Nat} (G_Sheet_refuse_off : FnOk P w K mg base (L2.CX P w) j_Sheet_refuse_off T.a_Sheet_refuse_off T.d_Sheet_refuse_off ["self", "place"] sp_Sheet_refuse_off) (h_Sheet_refuse_off : j_Sheet_refuse_off ≤ k) (G_all_references : FnOk P w K mg base CX0 j_all_references T.a_all_references T.d_all_references ["rule"] sp_all_references) (h_all_references : j_all_references ≤ k) {cdv : Value} {A : Around} {outer : List Env} {s : Shared} {H : Hp} {E : XK} (hr : Room k (A.deeper (envOfC "Sheet._refuse_references_off" (defScope s_Sheet_refuse_references_off) s.heap.objs.size T.a_Sheet_refuse_references_off cdv))) :=
  (show PSs (cxOf (L2.CX P w) P w K mg base ["self", "rule", "reference"] "Sheet._refuse_references_off" (defScope s_Sheet_refuse_references_off) T.a_Sheet_refuse_references_off cdv A outer s H E) (defBody s_Sheet_refuse_references_off) _ from
    (pss_one (ps_for (passes_of rfl) rfl (pi_list (pe_call G_all_references (hr.mono (by omega)) (by rfl) T.m_all_references T.F_all_references.kp T.b_all_references .nil pass0 (pa_cons (pv 1) pa_nil))) (pg_name (i := 2) sc_Sheet_refuse_references_off.nd rfl (Or.inl rfl)) (pss_one (ps_expr (pe_meth (pv 0) T.cl_Sheet T.M_Sheet_refuse_off G_Sheet_refuse_off (hr.mono (by omega)) T.b_Sheet_refuse_off .nil (passes_call (takes_of rfl rfl rfl rfl) (fun _ _ _ _ h => h)) (pa_cons (pv 2) pa_nil)))))))
/-- Sheet_refuse_off -/
def B_Sheet_refuse_off (T : Top K mg w) {k : Nat} {cdv : Value} {A : Around} {outer : List Env} {s : Shared} {H : Hp} {E : XK} (hr : Room k (A.deeper (envOfC "Sheet._refuse_off" (defScope s_Sheet_refuse_off) s.heap.objs.size T.a_Sheet_refuse_off cdv))) :=
  (show PSs (cxOf (L2.CX P w) P w K mg base ["self", "place"] "Sheet._refuse_off" (defScope s_Sheet_refuse_off) T.a_Sheet_refuse_off cdv A outer s H E) (defBody s_Sheet_refuse_off) _ from
    (pss_one (ps_if (pt_not (PW.pt (pw_and (pt_chain op_le op_lt pe_int (pe_ix ix_tup (pv 1) pe_int (fun _ _ => rfl)) (pe_fld (pv 0) rfl)) (pw_and1 (pt_chain op_le op_lt pe_int (pe_ix ix_tup (pv 1) pe_int (fun _ _ => rfl)) (pe_fld (pv 0) rfl)))))) (pss_one (ps_raise rfl (takes_of rfl rfl rfl rfl) (pmk_own PySem.F.excBase_ValueError T.x_OffSheet T.g_OffSheet T.k_OffSheet (raises_own T.sb_OffSheet T.ty_OffSheet) (by exact rfl)))) pss_nil)))
/-- _law_cell_at -/
def B__law_cell_at (T : Top K mg w) {k : Nat} {cdv : Value} {A : Around} {outer : List Env} {s : Shared} {H : Hp} {E : XK} (hr : Room k (A.deeper (envOfC "_law_cell_at" (defScope s__law_cell_at) s.heap.objs.size T.a__law_cell_at cdv))) :=
  (show PSs (cxOf CX0 P w K mg base ["_law_script", "_law_k"] "_law_cell_at" (defScope s__law_cell_at) T.a__law_cell_at cdv A outer s H E).nox (defBody s__law_cell_at) _ from
    (pss_cons (ps_if (pt_cmpR op_lt (pv 1) (pe_callB call_len_seq (by rfl) T.z_len (by decide +kernel) (pa_cons (pv 0) pa_nil)) (nomark _)) (pss_one (ps_ret (pe_op op_add (pe_ix ix_list (pv 0) (pv 1) (fun _ _ => rfl)) (pe_op op_mul (pe_op op_mod (pe_ix ix_list (pv 0) (pv 1) (fun _ _ => rfl)) pe_int) pe_int)))) pss_nil)
      (pss_one (ps_ret pe_int))))
/-- _law_ref_by -/
def B__law_ref_by (T : Top K mg w) {k : Nat} {cdv : Value} {A : Around} {outer : List Env} {s : Shared} {H : Hp} {E : XK} (hr : Room k (A.deeper (envOfC "_law_ref_by" (defScope s__law_ref_by) s.heap.objs.size T.a__law_ref_by cdv))) :=
  (show PSs (cxOf CX0 P w K mg base ["_law_cell", "_law_high", "_law_wide"] "_law_ref_by" (defScope s__law_ref_by) T.a__law_ref_by cdv A outer s H E).nox (defBody s__law_ref_by) _ from
    (pss_one (ps_ret (pe_tup (pa_cons (pe_op op_mod (pv 0) (pv 1)) (pa_cons (pe_op op_mod (pe_op op_fdiv (pv 0) pe_int) (pv 2)) (pa_cons (pe_cmpR op_eq (pe_op op_mod (pe_op op_fdiv (pv 0) pe_int) pe_int) pe_int (nomark _)) (pa_cons (pe_cmpR op_eq (pe_op op_mod (pe_op op_fdiv (pv 0) pe_int) pe_int) pe_int (nomark _)) pa_nil))))))))
/-- _law_leaf_by -/
def B__law_leaf_by (T : Top K mg w) {j__law_ref_by : Nat} {sp__law_ref_by : Sp} {k : Nat} (G__law_ref_by : FnOk P w K mg base CX0 j__law_ref_by T.a__law_ref_by T.d__law_ref_by ["_law_cell", "_law_high", "_law_wide"] sp__law_ref_by) (h__law_ref_by : j__law_ref_by ≤ k) {cdv : Value} {A : Around} {outer : List Env} {s : Shared} {H : Hp} {E : XK} (hr : Room k (A.deeper (envOfC "_law_leaf_by" (defScope s__law_leaf_by) s.heap.objs.size T.a__law_leaf_by cdv))) :=
  (show PSs (cxOf CX0 P w K mg base ["_law_cell", "_law_high", "_law_wide", "_law_more", "_law_one"] "_law_leaf_by" (defScope s__law_leaf_by) T.a__law_leaf_by cdv A outer s H E).nox (defBody s__law_leaf_by) _ from
    (pss_cons (ps_set (i := 3) sc__law_leaf_by.nd rfl (Or.inl rfl) (pe_op op_fdiv (pv 0) pe_int))
      (pss_cons (ps_set (i := 4) sc__law_leaf_by.nd rfl (Or.inl rfl) (pe_call G__law_ref_by (hr.mono (by omega)) (by rfl) T.m__law_ref_by T.F__law_ref_by.kp T.b__law_ref_by .nil pass0 (pa_cons (pv 3) (pa_cons (pv 1) (pa_cons (pv 2) pa_nil)))))
      (pss_cons (ps_if (pt_cmpR op_eq (pe_op op_mod (pv 0) pe_int) pe_int (nomark _)) (pss_one (ps_ret (pe_tup (pa_cons pe_str (pa_cons (pe_op op_mod (pv 3) (pe_op op_pow pe_int pe_int)) pa_nil))))) pss_nil)
      (pss_cons (ps_if (pt_cmpR op_eq (pe_op op_mod (pv 0) pe_int) pe_int (nomark _)) (pss_one (ps_ret (pe_tup (pa_cons pe_str (pa_cons (pv 4) (pa_cons (pe_call G__law_ref_by (hr.mono (by omega)) (by rfl) T.m__law_ref_by T.F__law_ref_by.kp T.b__law_ref_by .nil pass0 (pa_cons (pe_op op_mod (pe_op op_mul (pv 3) pe_int) pe_int) (pa_cons (pv 1) (pa_cons (pv 2) pa_nil)))) pa_nil)))))) pss_nil)
      (pss_cons (ps_if (pt_cmpR op_eq (pe_op op_mod (pv 0) pe_int) pe_int (nomark _)) (pss_one (ps_ret (pe_tup (pa_cons pe_str (pa_cons (pv 4) (pa_cons (pe_call G__law_ref_by (hr.mono (by omega)) (by rfl) T.m__law_ref_by T.F__law_ref_by.kp T.b__law_ref_by .nil pass0 (pa_cons (pe_op op_mod (pe_op op_mul (pv 3) pe_int) pe_int) (pa_cons (pv 1) (pa_cons (pv 2) pa_nil)))) pa_nil)))))) pss_nil)
      (pss_one (ps_ret (pe_tup (pa_cons pe_str (pa_cons (pv 4) pa_nil)))))))))))
/-- _law_rule_by -/
def B__law_rule_by (T : Top K mg w) {j__law_leaf_by : Nat} {sp__law_leaf_by : Sp} {j__law_ref_by : Nat} {sp__law_ref_by : Sp} {k : Nat} (G__law_leaf_by : FnOk P w K mg base CX0 j__law_leaf_by T.a__law_leaf_by T.d__law_leaf_by ["_law_cell", "_law_high", "_law_wide"] sp__law_leaf_by) (h__law_leaf_by : j__law_leaf_by ≤ k) (G__law_ref_by : FnOk P w K mg base CX0 j__law_ref_by T.a__law_ref_by T.d__law_ref_by ["_law_cell", "_law_high", "_law_wide"] sp__law_ref_by) (h__law_ref_by : j__law_ref_by ≤ k) {cdv : Value} {A : Around} {outer : List Env} {s : Shared} {H : Hp} {E : XK} (hr : Room k (A.deeper (envOfC "_law_rule_by" (defScope s__law_rule_by) s.heap.objs.size T.a__law_rule_by cdv))) :=
  (show PSs (cxOf CX0 P w K mg base ["_law_cell", "_law_high", "_law_wide", "_law_more", "_law_one", "_law_two", "_law_other"] "_law_rule_by" (defScope s__law_rule_by) T.a__law_rule_by cdv A outer s H E).nox (defBody s__law_rule_by) _ from
    (pss_cons (ps_set (i := 3) sc__law_rule_by.nd rfl (Or.inl rfl) (pe_op op_fdiv (pv 0) pe_int))
      (pss_cons (ps_set (i := 4) sc__law_rule_by.nd rfl (Or.inl rfl) (pe_call G__law_leaf_by (hr.mono (by omega)) (by rfl) T.m__law_leaf_by T.F__law_leaf_by.kp T.b__law_leaf_by .nil pass0 (pa_cons (pv 3) (pa_cons (pv 1) (pa_cons (pv 2) pa_nil)))))
      (pss_cons (ps_set (i := 5) sc__law_rule_by.nd rfl (Or.inl rfl) (pe_call G__law_leaf_by (hr.mono (by omega)) (by rfl) T.m__law_leaf_by T.F__law_leaf_by.kp T.b__law_leaf_by .nil pass0 (pa_cons (pe_op op_mod (pe_op op_mul (pv 3) pe_int) pe_int) (pa_cons (pv 1) (pa_cons (pv 2) pa_nil)))))
      (pss_cons (ps_if (pt_cmpR op_lt (pe_op op_mod (pv 0) pe_int) pe_int (nomark _)) (pss_one (ps_ret (pv 4))) pss_nil)
      (pss_cons (ps_if (pt_cmpR op_lt (pe_op op_mod (pv 0) pe_int) pe_int (nomark _)) (pss_one (ps_ret (pe_tup (pa_cons (pe_ix ix_list (pe_lst (pa_cons pe_str (pa_cons pe_str pa_nil))) (pe_op op_sub (pe_op op_mod (pv 0) pe_int) pe_int) (fun _ _ => rfl)) (pa_cons (pv 4) (pa_cons (pv 5) pa_nil)))))) pss_nil)
      (pss_cons (ps_if (pt_cmpR op_eq (pe_op op_mod (pv 0) pe_int) pe_int (nomark _)) (pss_one (ps_ret (pe_tup (pa_cons pe_str (pa_cons (pv 5) (pa_cons (pe_tup (pa_cons pe_str (pa_cons (pv 4) (pa_cons (pv 5) pa_nil)))) (pa_cons (pe_call G__law_leaf_by (hr.mono (by omega)) (by rfl) T.m__law_leaf_by T.F__law_leaf_by.kp T.b__law_leaf_by .nil pass0 (pa_cons (pe_op op_mod (pe_op op_mul (pv 3) pe_int) pe_int) (pa_cons (pv 1) (pa_cons (pv 2) pa_nil)))) pa_nil))))))) pss_nil)
      (pss_cons (ps_set (i := 6) sc__law_rule_by.nd rfl (Or.inl rfl) (pe_call G__law_ref_by (hr.mono (by omega)) (by rfl) T.m__law_ref_by T.F__law_ref_by.kp T.b__law_ref_by .nil pass0 (pa_cons (pe_op op_mod (pe_op op_mul (pv 3) pe_int) pe_int) (pa_cons (pv 1) (pa_cons (pv 2) pa_nil)))))
      (pss_one (ps_ret (pe_tup (pa_cons pe_str (pa_cons (pv 4) (pa_cons (pe_call G__law_ref_by (hr.mono (by omega)) (by rfl) T.m__law_ref_by T.F__law_ref_by.kp T.b__law_ref_by .nil pass0 (pa_cons (pv 3) (pa_cons (pv 1) (pa_cons (pv 2) pa_nil)))) (pa_cons (pv 6) (pa_cons (pv 5) pa_nil))))))))))))))))
/-- _law_same -/
def B__law_same (T : Top K mg w) {j__law_same : Nat} {sp__law_same : Sp} {k : Nat} (G__law_same : FnOk P w K mg base CX0 j__law_same T.a__law_same T.d__law_same ["_law_found", "_law_due_here"] sp__law_same) (h__law_same : j__law_same ≤ k) {cdv : Value} {A : Around} {outer : List Env} {s : Shared} {H : Hp} {E : XK} (hr : Room k (A.deeper (envOfC "_law_same" (defScope s__law_same) s.heap.objs.size T.a__law_same cdv))) :=
  (show PSs (cxOf CX0 P w K mg base ["_law_found", "_law_due_here", "_law_k"] "_law_same" (defScope s__law_same) T.a__law_same cdv A outer s H E).nox (defBody s__law_same) _ from
    (pss_cons (ps_if (pt_val (pe_callB call_isi (by rfl) T.z_isinstance (by decide +kernel) (pa_cons (pv 1) (pa_cons (pe_bltn (v := V.ty "tuple") (u := Value.type "tuple") (by rfl) T.z_tuple (by decide +kernel) rfl) pa_nil)))) (pss_cons (ps_if (PW.pt (pw_or (pt_not (pt_val (pe_callB call_isi (by rfl) T.z_isinstance (by decide +kernel) (pa_cons (pv 0) (pa_cons (pe_bltn (v := V.ty "tuple") (u := Value.type "tuple") (by rfl) T.z_tuple (by decide +kernel) rfl) pa_nil))))) (pw_or1 (pt_cmpR op_ne (pe_callB call_len_seq (by rfl) T.z_len (by decide +kernel) (pa_cons (pv 0) pa_nil)) (pe_callB call_len_seq (by rfl) T.z_len (by decide +kernel) (pa_cons (pv 1) pa_nil)) (nomark _))))) (pss_one (ps_ret pe_bl)) pss_nil)
      (pss_cons (ps_for PassesOwn.never rfl (pi_range1 rfl T.z_range (pa_cons (pe_callB call_len_seq (by rfl) T.z_len (by decide +kernel) (pa_cons (pv 1) pa_nil)) pa_nil)) (pg_name (i := 2) sc__law_same.nd rfl (Or.inl rfl)) (pss_one (ps_if (pt_not (pt_val (pe_call G__law_same (hr.mono (by omega)) (by rfl) T.m__law_same T.F__law_same.kp T.b__law_same .nil pass0 (pa_cons (pe_ix ix_tup (pv 0) (pv 2) (fun _ _ => rfl)) (pa_cons (pe_ix ix_tup (pv 1) (pv 2) (fun _ _ => rfl)) pa_nil))))) (pss_one (ps_ret pe_bl)) pss_nil)))
      (pss_one (ps_ret pe_bl)))) pss_nil)
      (pss_cons (ps_if (PW.pt (pw_or (pt_val (pe_callB call_isi (by rfl) T.z_isinstance (by decide +kernel) (pa_cons (pv 1) (pa_cons (pe_bltn (v := V.ty "bool") (u := Value.type "bool") (by rfl) T.z_bool (by decide +kernel) rfl) pa_nil)))) (pw_or1 (pt_val (pe_callB call_isi (by rfl) T.z_isinstance (by decide +kernel) (pa_cons (pv 0) (pa_cons (pe_bltn (v := V.ty "bool") (u := Value.type "bool") (by rfl) T.z_bool (by decide +kernel) rfl) pa_nil))))))) (pss_one (ps_ret (pe_and (pe_callB call_isi (by rfl) T.z_isinstance (by decide +kernel) (pa_cons (pv 1) (pa_cons (pe_bltn (v := V.ty "bool") (u := Value.type "bool") (by rfl) T.z_bool (by decide +kernel) rfl) pa_nil))) (pe_and (pe_callB call_isi (by rfl) T.z_isinstance (by decide +kernel) (pa_cons (pv 0) (pa_cons (pe_bltn (v := V.ty "bool") (u := Value.type "bool") (by rfl) T.z_bool (by decide +kernel) rfl) pa_nil))) (pe_one (pe_cmpR (op_eqD hr.units) (pv 0) (pv 1) (nomark _))))))) pss_nil)
      (pss_cons (ps_if (pt_val (pe_callB call_isi (by rfl) T.z_isinstance (by decide +kernel) (pa_cons (pv 1) (pa_cons (pe_bltn (v := V.ty "int") (u := Value.type "int") (by rfl) T.z_int (by decide +kernel) rfl) pa_nil)))) (pss_one (ps_ret (pe_and (pe_callB call_isi (by rfl) T.z_isinstance (by decide +kernel) (pa_cons (pv 0) (pa_cons (pe_bltn (v := V.ty "int") (u := Value.type "int") (by rfl) T.z_int (by decide +kernel) rfl) pa_nil))) (pe_one (pe_cmpR (op_eqD hr.units) (pv 0) (pv 1) (nomark _)))))) pss_nil)
      (pss_one (ps_ret (pe_and (pe_callB call_isi (by rfl) T.z_isinstance (by decide +kernel) (pa_cons (pv 0) (pa_cons (pe_bltn (v := V.ty "str") (u := Value.type "str") (by rfl) T.z_str (by decide +kernel) rfl) pa_nil))) (pe_one (pe_cmpR (op_eqD hr.units) (pv 0) (pv 1) (nomark _))))))))))
/-- _law_wrapped -/
def B__law_wrapped (T : Top K mg w) {k : Nat} {cdv : Value} {A : Around} {outer : List Env} {s : Shared} {H : Hp} {E : XK} (hr : Room k (A.deeper (envOfC "_law_wrapped" (defScope s__law_wrapped) s.heap.objs.size T.a__law_wrapped cdv))) :=
  (show PSs (cxOf CX0 P w K mg base ["_law_rule", "_law_cell", "_law_many", "_law_k", "_law_way"] "_law_wrapped" (defScope s__law_wrapped) T.a__law_wrapped cdv A outer s H E).nox (defBody s__law_wrapped) _ from
    (pss_cons (ps_for PassesOwn.never rfl (pi_range1 rfl T.z_range (pa_cons (pv 2) pa_nil)) (pg_name (i := 3) sc__law_wrapped.nd rfl (Or.inl rfl)) (pss_cons (ps_set (i := 4) sc__law_wrapped.nd rfl (Or.inl rfl) (pe_op op_mod (pe_op op_add (pe_op op_fdiv (pv 1) pe_int) (pe_op op_mul (pv 3) (pv 3))) pe_int))
      (pss_one (ps_if (pt_cmpR op_eq (pv 4) pe_int (nomark _)) (pss_one (ps_set (i := 0) sc__law_wrapped.nd rfl (Or.inl rfl) (pe_tup (pa_cons pe_str (pa_cons (pv 0) (pa_cons (pe_tup (pa_cons pe_str (pa_cons (pv 3) pa_nil))) pa_nil)))))) (pss_one (ps_if (pt_cmpR op_eq (pv 4) pe_int (nomark _)) (pss_one (ps_set (i := 0) sc__law_wrapped.nd rfl (Or.inl rfl) (pe_tup (pa_cons pe_str (pa_cons (pe_tup (pa_cons pe_str (pa_cons (pe_op op_add (pv 3) pe_int) pa_nil))) (pa_cons (pv 0) pa_nil)))))) (pss_one (ps_if (pt_cmpR op_eq (pv 4) pe_int (nomark _)) (pss_one (ps_set (i := 0) sc__law_wrapped.nd rfl (Or.inl rfl) (pe_tup (pa_cons pe_str (pa_cons (pe_tup (pa_cons pe_str (pa_cons (pe_op op_mod (pv 3) pe_int) pa_nil))) (pa_cons (pv 0) (pa_cons (pe_tup (pa_cons pe_str (pa_cons (pv 3) pa_nil))) pa_nil))))))) (pss_one (ps_set (i := 0) sc__law_wrapped.nd rfl (Or.inl rfl) (pe_tup (pa_cons pe_str (pa_cons (pe_tup (pa_cons pe_str (pa_cons (pv 3) pa_nil))) (pa_cons (pv 0) pa_nil))))))))))))))
      (pss_one (ps_ret (pv 0)))))
/-- _law_is_ref -/
def B__law_is_ref (T : Top K mg w) {k : Nat} {cdv : Value} {A : Around} {outer : List Env} {s : Shared} {H : Hp} {E : XK} (hr : Room k (A.deeper (envOfC "_law_is_ref" (defScope s__law_is_ref) s.heap.objs.size T.a__law_is_ref cdv))) :=
  (show PSs (cxOf CX0 P w K mg base ["_law_part"] "_law_is_ref" (defScope s__law_is_ref) T.a__law_is_ref cdv A outer s H E).nox (defBody s__law_is_ref) _ from
    (pss_one (ps_ret (pe_and (pe_callB call_isi (by rfl) T.z_isinstance (by decide +kernel) (pa_cons (pv 0) (pa_cons (pe_bltn (v := V.ty "tuple") (u := Value.type "tuple") (by rfl) T.z_tuple (by decide +kernel) rfl) pa_nil))) (pe_and (pe_cmpR op_eq (pe_callB call_len_seq (by rfl) T.z_len (by decide +kernel) (pa_cons (pv 0) pa_nil)) pe_int (nomark _)) (pe_one (pe_callB call_isi (by rfl) T.z_isinstance (by decide +kernel) (pa_cons (pe_ix ix_tup (pv 0) pe_int (fun _ _ => rfl)) (pa_cons (pe_bltn (v := V.ty "bool") (u := Value.type "bool") (by rfl) T.z_bool (by decide +kernel) rfl) pa_nil)))))))))
/-- _law_moved -/
def B__law_moved (T : Top K mg w) {j__law_is_ref : Nat} {sp__law_is_ref : Sp} {j__law_moved : Nat} {sp__law_moved : Sp} {k : Nat} (G__law_is_ref : FnOk P w K mg base CX0 j__law_is_ref T.a__law_is_ref T.d__law_is_ref ["_law_part"] sp__law_is_ref) (h__law_is_ref : j__law_is_ref ≤ k) (G__law_moved : FnOk P w K mg base CX0 j__law_moved T.a__law_moved T.d__law_moved ["_law_part", "_law_down", "_law_right"] sp__law_moved) (h__law_moved : j__law_moved ≤ k) {cdv : Value} {A : Around} {outer : List Env} {s : Shared} {H : Hp} {E : XK} (hr : Room k (A.deeper (envOfC "_law_moved" (defScope s__law_moved) s.heap.objs.size T.a__law_moved cdv))) :=
  (show PSs (cxOf CX0 P w K mg base ["_law_part", "_law_down", "_law_right", "_law_one"] "_law_moved" (defScope s__law_moved) T.a__law_moved cdv A outer s H E).nox (defBody s__law_moved) _ from
    (pss_cons (ps_if (pt_val (pe_call G__law_is_ref (hr.mono (by omega)) (by rfl) T.m__law_is_ref T.F__law_is_ref.kp T.b__law_is_ref .nil pass0 (pa_cons (pv 0) pa_nil))) (pss_one (ps_ret (pe_tup (pa_cons (pe_op op_add (pe_ix ix_tup (pv 0) pe_int (fun _ _ => rfl)) (pe_op op_mul (pv 1) (pe_callTy call_int1 (by rfl) T.z_int (by decide +kernel) (pa_cons (pe_not (pe_ix ix_tup (pv 0) pe_int (fun _ _ => rfl))) pa_nil)))) (pa_cons (pe_op op_add (pe_ix ix_tup (pv 0) pe_int (fun _ _ => rfl)) (pe_op op_mul (pv 2) (pe_callTy call_int1 (by rfl) T.z_int (by decide +kernel) (pa_cons (pe_not (pe_ix ix_tup (pv 0) pe_int (fun _ _ => rfl))) pa_nil)))) (pa_cons (pe_ix ix_tup (pv 0) pe_int (fun _ _ => rfl)) (pa_cons (pe_ix ix_tup (pv 0) pe_int (fun _ _ => rfl)) pa_nil))))))) pss_nil)
      (pss_cons (ps_if (pt_val (pe_callB call_isi (by rfl) T.z_isinstance (by decide +kernel) (pa_cons (pv 0) (pa_cons (pe_bltn (v := V.ty "tuple") (u := Value.type "tuple") (by rfl) T.z_tuple (by decide +kernel) rfl) pa_nil)))) (pss_one (ps_ret (pe_callTy call_tuple_of (by rfl) T.z_tuple (by decide +kernel) (pa_cons (pe_lc (own := [("_law_one", 3)]) (g := gName 3) (tt := tYes) rfl sc__law_moved.nd (pi_tup (pv 0)) (blkOk_by (own := [("_law_one", 3)]) (N := ["_law_part", "_law_down", "_law_right", "_law_one"]) (sc := defScope s__law_moved) (by decide +kernel)) (fun _ _ _ _ _ => (pg_name (i := 3) sc__law_moved.nd rfl (Or.inl rfl))) (fun _ _ _ _ _ => pts_nil) (fun _ _ _ _ _ => (pe_call G__law_moved (hr.mono (by omega)) (by rfl) T.m__law_moved T.F__law_moved.kp T.b__law_moved .nil pass0 (pa_cons (pv 3) (pa_cons (pv 1) (pa_cons (pv 2) pa_nil)))))) pa_nil)))) pss_nil)
      (pss_one (ps_ret (pv 0))))))
/-- _law_lies -/
def B__law_lies (T : Top K mg w) {j__law_is_ref : Nat} {sp__law_is_ref : Sp} {j__law_lies : Nat} {sp__law_lies : Sp} {k : Nat} (G__law_is_ref : FnOk P w K mg base CX0 j__law_is_ref T.a__law_is_ref T.d__law_is_ref ["_law_part"] sp__law_is_ref) (h__law_is_ref : j__law_is_ref ≤ k) (G__law_lies : FnOk P w K mg base CX0 j__law_lies T.a__law_lies T.d__law_lies ["_law_part", "_law_high", "_law_wide"] sp__law_lies) (h__law_lies : j__law_lies ≤ k) {cdv : Value} {A : Around} {outer : List Env} {s : Shared} {H : Hp} {E : XK} (hr : Room k (A.deeper (envOfC "_law_lies" (defScope s__law_lies) s.heap.objs.size T.a__law_lies cdv))) :=
  (show PSs (cxOf CX0 P w K mg base ["_law_part", "_law_high", "_law_wide", "_law_one"] "_law_lies" (defScope s__law_lies) T.a__law_lies cdv A outer s H E).nox (defBody s__law_lies) _ from
    (pss_cons (ps_if (pt_val (pe_call G__law_is_ref (hr.mono (by omega)) (by rfl) T.m__law_is_ref T.F__law_is_ref.kp T.b__law_is_ref .nil pass0 (pa_cons (pv 0) pa_nil))) (pss_one (ps_ret (pe_and (pe_cmpR op_le pe_int (pe_ix ix_tup (pv 0) pe_int (fun _ _ => rfl)) (nomark _)) (pe_and (pe_cmpR op_lt (pe_ix ix_tup (pv 0) pe_int (fun _ _ => rfl)) (pv 1) (nomark _)) (pe_and (pe_cmpR op_le pe_int (pe_ix ix_tup (pv 0) pe_int (fun _ _ => rfl)) (nomark _)) (pe_one (pe_cmpR op_lt (pe_ix ix_tup (pv 0) pe_int (fun _ _ => rfl)) (pv 2) (nomark _)))))))) pss_nil)
      (pss_cons (ps_if (pt_val (pe_callB call_isi (by rfl) T.z_isinstance (by decide +kernel) (pa_cons (pv 0) (pa_cons (pe_bltn (v := V.ty "tuple") (u := Value.type "tuple") (by rfl) T.z_tuple (by decide +kernel) rfl) pa_nil)))) (pss_one (ps_for PassesOwn.never rfl (pi_tup (pv 0)) (pg_name (i := 3) sc__law_lies.nd rfl (Or.inl rfl)) (pss_one (ps_if (pt_not (pt_val (pe_call G__law_lies (hr.mono (by omega)) (by rfl) T.m__law_lies T.F__law_lies.kp T.b__law_lies .nil pass0 (pa_cons (pv 3) (pa_cons (pv 1) (pa_cons (pv 2) pa_nil)))))) (pss_one (ps_ret pe_bl)) pss_nil)))) pss_nil)
      (pss_one (ps_ret pe_bl)))))
/-- _law_drawn_rule -/
def B__law_drawn_rule (T : Top K mg w) {j__law_cell_at : Nat} {sp__law_cell_at : Sp} {j__law_rule_by : Nat} {sp__law_rule_by : Sp} {j__law_wrapped : Nat} {sp__law_wrapped : Sp} {k : Nat} (G__law_cell_at : FnOk P w K mg base CX0 j__law_cell_at T.a__law_cell_at T.d__law_cell_at ["_law_script", "_law_k"] sp__law_cell_at) (h__law_cell_at : j__law_cell_at ≤ k) (G__law_rule_by : FnOk P w K mg base CX0 j__law_rule_by T.a__law_rule_by T.d__law_rule_by ["_law_cell", "_law_high", "_law_wide"] sp__law_rule_by) (h__law_rule_by : j__law_rule_by ≤ k) (G__law_wrapped : FnOk P w K mg base CX0 j__law_wrapped T.a__law_wrapped T.d__law_wrapped ["_law_rule", "_law_cell", "_law_many"] sp__law_wrapped) (h__law_wrapped : j__law_wrapped ≤ k) {cdv : Value} {A : Around} {outer : List Env} {s : Shared} {H : Hp} {E : XK} (hr : Room k (A.deeper (envOfC "_law_drawn_rule" (defScope s__law_drawn_rule) s.heap.objs.size T.a__law_drawn_rule cdv))) :=
  (show PSs (cxOf CX0 P w K mg base ["_law_script", "_law_k", "_law_high", "_law_wide", "_law_cell", "_law_rule"] "_law_drawn_rule" (defScope s__law_drawn_rule) T.a__law_drawn_rule cdv A outer s H E).nox (defBody s__law_drawn_rule) _ from
    (pss_cons (ps_set (i := 4) sc__law_drawn_rule.nd rfl (Or.inl rfl) (pe_call G__law_cell_at (hr.mono (by omega)) (by rfl) T.m__law_cell_at T.F__law_cell_at.kp T.b__law_cell_at .nil pass0 (pa_cons (pv 0) (pa_cons (pe_op op_add pe_int (pv 1)) pa_nil))))
      (pss_cons (ps_set (i := 5) sc__law_drawn_rule.nd rfl (Or.inl rfl) (pe_call G__law_rule_by (hr.mono (by omega)) (by rfl) T.m__law_rule_by T.F__law_rule_by.kp T.b__law_rule_by .nil pass0 (pa_cons (pv 4) (pa_cons (pv 2) (pa_cons (pv 3) pa_nil)))))
      (pss_cons (ps_if (pt_cmpR op_eq (pe_op op_mul (pv 2) (pv 3)) pe_int (nomark _)) (pss_one (ps_set (i := 5) sc__law_drawn_rule.nd rfl (Or.inl rfl) (pe_tup (pa_cons pe_str (pa_cons (pe_tup (pa_cons pe_str (pa_cons (pe_tup (pa_cons (pe_op op_mod (pv 4) pe_int) (pa_cons (pe_op op_mod (pe_op op_fdiv (pv 4) pe_int) pe_int) (pa_cons pe_bl (pa_cons pe_bl pa_nil))))) pa_nil))) (pa_cons (pe_tup (pa_cons pe_str (pa_cons (pe_op op_mod (pv 4) pe_int) pa_nil))) pa_nil)))))) pss_nil)
      (pss_cons (ps_if (pt_cmpR op_eq (pe_op op_mod (pe_call G__law_cell_at (hr.mono (by omega)) (by rfl) T.m__law_cell_at T.F__law_cell_at.kp T.b__law_cell_at .nil pass0 (pa_cons (pv 0) (pa_cons pe_int pa_nil))) pe_int) pe_int (nomark _)) (pss_one (ps_set (i := 5) sc__law_drawn_rule.nd rfl (Or.inl rfl) (pe_call G__law_wrapped (hr.mono (by omega)) (by rfl) T.m__law_wrapped T.F__law_wrapped.kp T.b__law_wrapped .nil pass0 (pa_cons (pv 5) (pa_cons (pe_op op_add (pe_call G__law_cell_at (hr.mono (by omega)) (by rfl) T.m__law_cell_at T.F__law_cell_at.kp T.b__law_cell_at .nil pass0 (pa_cons (pv 0) (pa_cons pe_int pa_nil))) (pv 1)) (pa_cons (pe_op op_add pe_int (pe_op op_mod (pe_op op_fdiv (pe_call G__law_cell_at (hr.mono (by omega)) (by rfl) T.m__law_cell_at T.F__law_cell_at.kp T.b__law_cell_at .nil pass0 (pa_cons (pv 0) (pa_cons pe_int pa_nil))) pe_int) pe_int)) pa_nil)))))) pss_nil)
      (pss_one (ps_ret (pv 5))))))))
/-- _law_on -/
def B__law_on (T : Top K mg w) {k : Nat} {cdv : Value} {A : Around} {outer : List Env} {s : Shared} {H : Hp} {E : XK} (hr : Room k (A.deeper (envOfC "_law_on" (defScope s__law_on) s.heap.objs.size T.a__law_on cdv))) :=
  (show PSs (cxOf CX0 P w K mg base ["_law_place", "_law_high", "_law_wide"] "_law_on" (defScope s__law_on) T.a__law_on cdv A outer s H E).nox (defBody s__law_on) _ from
    (pss_one (ps_ret (pe_and (pe_cmpR op_le pe_int (pe_ix ix_tup (pv 0) pe_int (fun _ _ => rfl)) (nomark _)) (pe_and (pe_cmpR op_lt (pe_ix ix_tup (pv 0) pe_int (fun _ _ => rfl)) (pv 1) (nomark _)) (pe_and (pe_cmpR op_le pe_int (pe_ix ix_tup (pv 0) pe_int (fun _ _ => rfl)) (nomark _)) (pe_one (pe_cmpR op_lt (pe_ix ix_tup (pv 0) pe_int (fun _ _ => rfl)) (pv 2) (nomark _)))))))))
/-- _law_due -/
def B__law_due (T : Top K mg w) {j__law_lies : Nat} {sp__law_lies : Sp} {j__law_moved : Nat} {sp__law_moved : Sp} {j__law_on : Nat} {sp__law_on : Sp} {k : Nat} (G__law_lies : FnOk P w K mg base CX0 j__law_lies T.a__law_lies T.d__law_lies ["_law_part", "_law_high", "_law_wide"] sp__law_lies) (h__law_lies : j__law_lies ≤ k) (G__law_moved : FnOk P w K mg base CX0 j__law_moved T.a__law_moved T.d__law_moved ["_law_part", "_law_down", "_law_right"] sp__law_moved) (h__law_moved : j__law_moved ≤ k) (G__law_on : FnOk P w K mg base CX0 j__law_on T.a__law_on T.d__law_on ["_law_place", "_law_high", "_law_wide"] sp__law_on) (h__law_on : j__law_on ≤ k) {cdv : Value} {A : Around} {outer : List Env} {s : Shared} {H : Hp} {E : XK} (hr : Room k (A.deeper (envOfC "_law_due" (defScope s__law_due) s.heap.objs.size T.a__law_due cdv))) :=
  (show PSs (cxOf CX0 P w K mg base ["_law_kept", "_law_corners_here", "_law_high", "_law_wide", "_law_place", "_law_source", "_law_rows", "_law_columns", "_law_due_here", "_law_inside"] "_law_due" (defScope s__law_due) T.a__law_due cdv A outer s H E).nox (defBody s__law_due) _ from
    (pss_cons (ps_for PassesOwn.never rfl (pi_list (pv 1)) (pg_name (i := 4) sc__law_due.nd rfl (Or.inl rfl)) (pss_one (ps_if (pt_not (pt_val (pe_call G__law_on (hr.mono (by omega)) (by rfl) T.m__law_on T.F__law_on.kp T.b__law_on .nil pass0 (pa_cons (pv 4) (pa_cons (pv 2) (pa_cons (pv 3) pa_nil)))))) (pss_one (ps_ret pe_non)) pss_nil)))
      (pss_cons (ps_set (i := 5) sc__law_due.nd rfl (Or.inl rfl) (pe_ix ix_list (pv 1) pe_int (fun _ _ => rfl)))
      (pss_cons (ps_set (i := 6) sc__law_due.nd rfl (Or.inl rfl) (pe_lst (pa_cons (pe_ix ix_tup (pe_ix ix_list (pv 1) pe_int (fun _ _ => rfl)) pe_int (fun _ _ => rfl)) (pa_cons (pe_ix ix_tup (pe_ix ix_list (pv 1) pe_int (fun _ _ => rfl)) pe_int (fun _ _ => rfl)) pa_nil))))
      (pss_cons (ps_set (i := 7) sc__law_due.nd rfl (Or.inl rfl) (pe_lst (pa_cons (pe_ix ix_tup (pe_ix ix_list (pv 1) pe_int (fun _ _ => rfl)) pe_int (fun _ _ => rfl)) (pa_cons (pe_ix ix_tup (pe_ix ix_list (pv 1) pe_int (fun _ _ => rfl)) pe_int (fun _ _ => rfl)) pa_nil))))
      (pss_cons (ps_set (i := 8) sc__law_due.nd rfl (Or.inl rfl) pe_dnewT)
      (pss_cons (ps_lock (ps_for PassesOwn.never rfl (pi_keys (pv 0)) (pg_name (i := 4) sc__law_due.nd rfl (Or.inl rfl)) (pss_cons (ps_dput (hu_of hr) (pv 8) (pv 4) (pe_dget (hu_of hr) (pv 0) (pv 4) (fun _ _ => rfl)) rfl)
      (pss_cons (ps_set (i := 9) sc__law_due.nd rfl (Or.inl rfl) (pe_and (pe_cmpR op_le (pe_callB (cr_min rfl) (by rfl) T.z_min (by decide +kernel) (pa_cons (pv 6) pa_nil)) (pe_ix ix_tup (pv 4) pe_int (fun _ _ => rfl)) (nomark _)) (pe_one (pe_cmpR op_le (pe_ix ix_tup (pv 4) pe_int (fun _ _ => rfl)) (pe_callB (cr_max rfl) (by rfl) T.z_max (by decide +kernel) (pa_cons (pv 6) pa_nil)) (nomark _)))))
      (pss_one (ps_if (PW.pt (pw_and (pt_tru (K := K) rfl (pv 9) (by intro _; rfl)) (pw_and (pt_cmpR op_le (pe_callB (cr_min rfl) (by rfl) T.z_min (by decide +kernel) (pa_cons (pv 7) pa_nil)) (pe_ix ix_tup (pv 4) pe_int (fun _ _ => rfl)) (nomark _)) (pw_and1 (pt_cmpR op_le (pe_ix ix_tup (pv 4) pe_int (fun _ _ => rfl)) (pe_callB (cr_max rfl) (by rfl) T.z_max (by decide +kernel) (pa_cons (pv 7) pa_nil)) (nomark _)))))) (pss_cons (ps_dput (hu_of hr) (pv 8) (pv 4) (pe_call G__law_moved (hr.mono (by omega)) (by rfl) T.m__law_moved T.F__law_moved.kp T.b__law_moved .nil pass0 (pa_cons (pe_dget (hu_of hr) (pv 0) (pv 5) (fun _ _ => rfl)) (pa_cons (pe_op op_sub (pe_ix ix_tup (pv 4) pe_int (fun _ _ => rfl)) (pe_ix ix_tup (pv 5) pe_int (fun _ _ => rfl))) (pa_cons (pe_op op_sub (pe_ix ix_tup (pv 4) pe_int (fun _ _ => rfl)) (pe_ix ix_tup (pv 5) pe_int (fun _ _ => rfl))) pa_nil)))) rfl)
      (pss_one (ps_if (pt_not (pt_val (pe_call G__law_lies (hr.mono (by omega)) (by rfl) T.m__law_lies T.F__law_lies.kp T.b__law_lies .nil pass0 (pa_cons (pe_dget (hu_of hr) (pv 8) (pv 4) (fun _ _ => rfl)) (pa_cons (pv 2) (pa_cons (pv 3) pa_nil)))))) (pss_one (ps_ret pe_non)) pss_nil))) pss_nil))))))
      (pss_one (ps_ret (pv 8))))))))))
/-- _law_done -/
def B__law_done (T : Top K mg w) {j_Sheet_copied : Nat} {sp_Sheet_copied : Sp} {j_Sheet_filled : Nat} {sp_Sheet_filled : Sp} {k : Nat} (G_Sheet_copied : FnOk P w K mg base (L2.CX P w) j_Sheet_copied T.a_Sheet_copied T.d_Sheet_copied ["self", "source", "target"] sp_Sheet_copied) (h_Sheet_copied : j_Sheet_copied ≤ k) (G_Sheet_filled : FnOk P w K mg base (L2.CX P w) j_Sheet_filled T.a_Sheet_filled T.d_Sheet_filled ["self", "source", "one", "two"] sp_Sheet_filled) (h_Sheet_filled : j_Sheet_filled ≤ k) {cdv : Value} {A : Around} {outer : List Env} {s : Shared} {H : Hp} {E : XK} (hr : Room k (A.deeper (envOfC "_law_done" (defScope s__law_done) s.heap.objs.size T.a__law_done cdv))) :=
  (show PSs (cxOf CX0 P w K mg base ["_law_sheet", "_law_corners_here", "_law_alone"] "_law_done" (defScope s__law_done) T.a__law_done cdv A outer s H E).nox (defBody s__law_done) _ from
    (pss_one (ps_try_only (Wout := fun _ _ _ _ => False) rfl rfl ⟨rfl, by decide, Or.inl T.g_OffSheet⟩ takes0 (fun W pn xe tk po => (pss_cons (ps_if (pt_tru (K := K) rfl (pv 2) (by intro _; rfl)) (pss_one (ps_ret (pe_cmpR op_isN (Pm.pe_methT (pv 0) T.cl_Sheet T.M_Sheet_copied G_Sheet_copied (hr.mono (by omega)) T.b_Sheet_copied (fun σ => passAt tk σ) (pa_cons (pe_ix (ix_listK (K := K) rfl) (pv 1) pe_int (fun _ _ => rfl)) (pa_cons (pe_ix (ix_listK (K := K) rfl) (pv 1) pe_int (fun _ _ => rfl)) pa_nil))) pe_non (nomark _)))) pss_nil)
      (pss_one (ps_ret (pe_cmpR op_isN (Pm.pe_methT (pv 0) T.cl_Sheet T.M_Sheet_filled G_Sheet_filled (hr.mono (by omega)) T.b_Sheet_filled (fun σ => passAt tk σ) (pa_cons (pe_ix (ix_listK (K := K) rfl) (pv 1) pe_int (fun _ _ => rfl)) (pa_cons (pe_ix (ix_listK (K := K) rfl) (pv 1) pe_int (fun _ _ => rfl)) (pa_cons (pe_ix (ix_listK (K := K) rfl) (pv 1) pe_int (fun _ _ => rfl)) pa_nil)))) pe_non (nomark _)))))) (fun a oe cls d pn hz hf => (pss_one (ps_ret pe_bl))))))
/-- _law_refused_by_any -/
def B__law_refused_by_any (T : Top K mg w) {j_Sheet_copied : Nat} {sp_Sheet_copied : Sp} {j_Sheet_filled : Nat} {sp_Sheet_filled : Sp} {k : Nat} (G_Sheet_copied : FnOk P w K mg base (L2.CX P w) j_Sheet_copied T.a_Sheet_copied T.d_Sheet_copied ["self", "source", "target"] sp_Sheet_copied) (h_Sheet_copied : j_Sheet_copied ≤ k) (G_Sheet_filled : FnOk P w K mg base (L2.CX P w) j_Sheet_filled T.a_Sheet_filled T.d_Sheet_filled ["self", "source", "one", "two"] sp_Sheet_filled) (h_Sheet_filled : j_Sheet_filled ≤ k) {cdv : Value} {A : Around} {outer : List Env} {s : Shared} {H : Hp} {E : XK} (hr : Room k (A.deeper (envOfC "_law_refused_by_any" (defScope s__law_refused_by_any) s.heap.objs.size T.a__law_refused_by_any cdv))) :=
  (show PSs (cxOf CX0 P w K mg base ["_law_sheet", "_law_corners_here", "_law_alone", "e"] "_law_refused_by_any" (defScope s__law_refused_by_any) T.a__law_refused_by_any cdv A outer s H E).nox (defBody s__law_refused_by_any) _ from
    (pss_cons (ps_try_as (i := 3) (Wout := fun _ _ _ _ => False) rfl rfl sc__law_refused_by_any.nd rfl rfl ⟨rfl, by decide, Or.inl T.g_SheetError⟩ takes0 (fun W pn xe tk po => (pss_one (ps_if (pt_tru (K := K) rfl (pv 2) (by intro _; rfl)) (pss_one (ps_expr (Pm.pe_methT (pv 0) T.cl_Sheet T.M_Sheet_copied G_Sheet_copied (hr.mono (by omega)) T.b_Sheet_copied (fun σ => passAt tk σ) (pa_cons (pe_ix (ix_listK (K := K) rfl) (pv 1) pe_int (fun _ _ => rfl)) (pa_cons (pe_ix (ix_listK (K := K) rfl) (pv 1) pe_int (fun _ _ => rfl)) pa_nil))))) (pss_one (ps_expr (Pm.pe_methT (pv 0) T.cl_Sheet T.M_Sheet_filled G_Sheet_filled (hr.mono (by omega)) T.b_Sheet_filled (fun σ => passAt tk σ) (pa_cons (pe_ix (ix_listK (K := K) rfl) (pv 1) pe_int (fun _ _ => rfl)) (pa_cons (pe_ix (ix_listK (K := K) rfl) (pv 1) pe_int (fun _ _ => rfl)) (pa_cons (pe_ix (ix_listK (K := K) rfl) (pv 1) pe_int (fun _ _ => rfl)) pa_nil))))))))) (fun a oe cls d pn hz hf => Pm.pss_when (p := Pm.ExcP K cls d) fun hp => (pss_one (ps_ret (pe_and (pe_callB (call_isE hp.2.2 (Pm.zc_of hz hp) hf) (by rfl) T.z_isinstance (by decide +kernel) (pa_cons (pv 3) (pa_cons (pe_bltn (v := V.ty "ValueError") (u := Value.type "ValueError") (by rfl) T.z_ValueError (by decide +kernel) rfl) pa_nil))) (pe_one (pe_not (pe_callB (Pm.call_isEM hp.2.2 (Pm.zc_of hz hp) hf) (by rfl) T.z_isinstance (by decide +kernel) (pa_cons (pv 3) (pa_cons (pe_tup (pa_cons (pe_glob (v := V.ref T.c_BadSize) (by rfl) T.g_BadSize rfl) (pa_cons (pe_glob (v := V.ref T.c_TooDeep) (by rfl) T.g_TooDeep rfl) pa_nil))) pa_nil))))))))))
      (pss_one (ps_ret pe_bl))))
/-- _law_corners -/
def B__law_corners (T : Top K mg w) {j__law_cell_at : Nat} {sp__law_cell_at : Sp} {k : Nat} (G__law_cell_at : FnOk P w K mg base CX0 j__law_cell_at T.a__law_cell_at T.d__law_cell_at ["_law_script", "_law_k"] sp__law_cell_at) (h__law_cell_at : j__law_cell_at ≤ k) {cdv : Value} {A : Around} {outer : List Env} {s : Shared} {H : Hp} {E : XK} (hr : Room k (A.deeper (envOfC "_law_corners" (defScope s__law_corners) s.heap.objs.size T.a__law_corners cdv))) :=
  (show PSs (cxOf CX0 P w K mg base ["_law_script", "_law_turn", "_law_high", "_law_wide", "_law_first", "_law_corners_here", "_law_k", "_law_odd", "_law_far"] "_law_corners" (defScope s__law_corners) T.a__law_corners cdv A outer s H E).nox (defBody s__law_corners) _ from
    (pss_cons (ps_set (i := 4) sc__law_corners.nd rfl (Or.inl rfl) (pe_op op_add pe_int (pe_op op_mul pe_int (pv 1))))
      (pss_cons (ps_set (i := 5) sc__law_corners.nd rfl (Or.inl rfl) (pe_lst pa_nil))
      (pss_cons (ps_for PassesOwn.never rfl (pi_range1 rfl T.z_range (pa_cons pe_int pa_nil)) (pg_name (i := 6) sc__law_corners.nd rfl (Or.inl rfl)) (pss_one (ps_expr (pe_bm PySem.F.plainAttrs_list PySem.F.slot_list_append PySem.F.type_list_append mt_append (pv 5) (pa_cons (pe_tup (pa_cons (pe_op op_mod (pe_call G__law_cell_at (hr.mono (by omega)) (by rfl) T.m__law_cell_at T.F__law_cell_at.kp T.b__law_cell_at .nil pass0 (pa_cons (pv 0) (pa_cons (pe_op op_add (pv 4) (pv 6)) pa_nil))) (pv 2)) (pa_cons (pe_op op_mod (pe_call G__law_cell_at (hr.mono (by omega)) (by rfl) T.m__law_cell_at T.F__law_cell_at.kp T.b__law_cell_at .nil pass0 (pa_cons (pv 0) (pa_cons (pe_op op_add (pe_op op_add (pv 4) pe_int) (pv 6)) pa_nil))) (pv 3)) pa_nil))) pa_nil)))))
      (pss_cons (ps_set (i := 7) sc__law_corners.nd rfl (Or.inl rfl) (pe_call G__law_cell_at (hr.mono (by omega)) (by rfl) T.m__law_cell_at T.F__law_cell_at.kp T.b__law_cell_at .nil pass0 (pa_cons (pv 0) (pa_cons (pe_op op_add (pv 4) pe_int) pa_nil))))
      (pss_cons (ps_if (pt_cmpR op_eq (pe_op op_mod (pv 7) pe_int) pe_int (nomark _)) (pss_cons (ps_set (i := 8) sc__law_corners.nd rfl (Or.inl rfl) (pe_ix ix_list (pe_lst (pa_cons (pe_tup (pa_cons (pv 2) (pa_cons pe_int pa_nil))) (pa_cons (pe_tup (pa_cons pe_int (pa_cons (pv 3) pa_nil))) (pa_cons (pe_tup (pa_cons (pe_un un_neg pe_int) (pa_cons pe_int pa_nil))) (pa_cons (pe_tup (pa_cons pe_int (pa_cons (pe_un un_neg pe_int) pa_nil))) (pa_cons (pe_tup (pa_cons pe_int (pa_cons (pe_op op_sub pe_int (pe_op op_pow pe_int pe_int)) pa_nil))) (pa_cons (pe_tup (pa_cons (pe_op op_pow pe_int pe_int) (pa_cons pe_int pa_nil))) pa_nil))))))) (pe_op op_mod (pe_op op_fdiv (pv 7) pe_int) pe_int) (fun _ _ => rfl)))
      (pss_one (ps_asg (pv 8) (pg_sub (pv 5) (pe_op op_mod (pe_op op_fdiv (pv 7) pe_int) pe_int) set_list)))) pss_nil)
      (pss_one (ps_ret (pv 5)))))))))
/-- _law_holds -/
def B__law_holds (T : Top K mg w) {j_Sheet_rule : Nat} {sp_Sheet_rule : Sp} {j__law_same : Nat} {sp__law_same : Sp} {k : Nat} (G_Sheet_rule : FnOk P w K mg base (L2.CX P w) j_Sheet_rule T.a_Sheet_rule T.d_Sheet_rule ["self", "place"] sp_Sheet_rule) (h_Sheet_rule : j_Sheet_rule ≤ k) (G__law_same : FnOk P w K mg base CX0 j__law_same T.a__law_same T.d__law_same ["_law_found", "_law_due_here"] sp__law_same) (h__law_same : j__law_same ≤ k) {cdv : Value} {A : Around} {outer : List Env} {s : Shared} {H : Hp} {E : XK} (hr : Room k (A.deeper (envOfC "_law_holds" (defScope s__law_holds) s.heap.objs.size T.a__law_holds cdv))) :=
  (show PSs (cxOf CX0 P w K mg base ["_law_sheet", "_law_kept", "_law_place"] "_law_holds" (defScope s__law_holds) T.a__law_holds cdv A outer s H E).nox (defBody s__law_holds) _ from
    (pss_cons (ps_lock (ps_for PassesOwn.never rfl (pi_keys (pv 1)) (pg_name (i := 2) sc__law_holds.nd rfl (Or.inl rfl)) (pss_one (ps_if (pt_not (pt_val (pe_call G__law_same (hr.mono (by omega)) (by rfl) T.m__law_same T.F__law_same.kp T.b__law_same .nil pass0 (pa_cons (pe_meth (pv 0) T.cl_Sheet T.M_Sheet_rule G_Sheet_rule (hr.mono (by omega)) T.b_Sheet_rule .nil passL (pa_cons (pv 2) pa_nil)) (pa_cons (pe_dget (hu_of hr) (pv 1) (pv 2) (fun _ _ => rfl)) pa_nil))))) (pss_one (ps_ret pe_bl)) pss_nil))))
      (pss_one (ps_ret pe_bl))))
/-- law -/
def B_law (T : Top K mg w) {j_Sheet_init : Nat} {sp_Sheet_init : Sp} {j_Sheet_put : Nat} {sp_Sheet_put : Sp} {j__law_cell_at : Nat} {sp__law_cell_at : Sp} {j__law_corners : Nat} {sp__law_corners : Sp} {j__law_done : Nat} {sp__law_done : Sp} {j__law_drawn_rule : Nat} {sp__law_drawn_rule : Sp} {j__law_due : Nat} {sp__law_due : Sp} {j__law_holds : Nat} {sp__law_holds : Sp} {j__law_refused_by_any : Nat} {sp__law_refused_by_any : Sp} {k : Nat} (G_Sheet_init : FnOk P w K mg base (L2.CX P w) j_Sheet_init T.a_Sheet_init T.d_Sheet_init ["self", "high", "wide"] sp_Sheet_init) (h_Sheet_init : j_Sheet_init + 1 ≤ k) (G_Sheet_put : FnOk P w K mg base (L2.CX P w) j_Sheet_put T.a_Sheet_put T.d_Sheet_put ["self", "place", "rule"] sp_Sheet_put) (h_Sheet_put : j_Sheet_put ≤ k) (G__law_cell_at : FnOk P w K mg base CX0 j__law_cell_at T.a__law_cell_at T.d__law_cell_at ["_law_script", "_law_k"] sp__law_cell_at) (h__law_cell_at : j__law_cell_at ≤ k) (G__law_corners : FnOk P w K mg base CX0 j__law_corners T.a__law_corners T.d__law_corners ["_law_script", "_law_turn", "_law_high", "_law_wide"] sp__law_corners) (h__law_corners : j__law_corners ≤ k) (G__law_done : FnOk P w K mg base CX0 j__law_done T.a__law_done T.d__law_done ["_law_sheet", "_law_corners_here", "_law_alone"] sp__law_done) (h__law_done : j__law_done ≤ k) (G__law_drawn_rule : FnOk P w K mg base CX0 j__law_drawn_rule T.a__law_drawn_rule T.d__law_drawn_rule ["_law_script", "_law_k", "_law_high", "_law_wide"] sp__law_drawn_rule) (h__law_drawn_rule : j__law_drawn_rule ≤ k) (G__law_due : FnOk P w K mg base CX0 j__law_due T.a__law_due T.d__law_due ["_law_kept", "_law_corners_here", "_law_high", "_law_wide"] sp__law_due) (h__law_due : j__law_due ≤ k) (G__law_holds : FnOk P w K mg base CX0 j__law_holds T.a__law_holds T.d__law_holds ["_law_sheet", "_law_kept"] sp__law_holds) (h__law_holds : j__law_holds ≤ k) (G__law_refused_by_any : FnOk P w K mg base CX0 j__law_refused_by_any T.a__law_refused_by_any T.d__law_refused_by_any ["_law_sheet", "_law_corners_here", "_law_alone"] sp__law_refused_by_any) (h__law_refused_by_any : j__law_refused_by_any ≤ k) {cdv : Value} {A : Around} {outer : List Env} {s : Shared} {H : Hp} {E : XK} (hr : Room k (A.deeper (envOfC "law" (defScope s_law) s.heap.objs.size T.a_law cdv))) :=
  (show PSs (cxOf CX0 P w K mg base ["_law_script", "_law_high", "_law_wide", "_law_sheet", "_law_kept", "_law_k", "_law_origin", "_law_turn", "_law_at", "_law_corners_here", "_law_way", "_law_due_here"] "law" (defScope s_law) T.a_law cdv A outer s H E).nox (defBody s_law) _ from
    (pss_cons (ps_set (i := 1) sc_law.nd rfl (Or.inl rfl) (pe_op op_add pe_int (pe_op op_mod (pe_call G__law_cell_at (hr.mono (by omega)) (by rfl) T.m__law_cell_at T.F__law_cell_at.kp T.b__law_cell_at .nil pass0 (pa_cons (pv 0) (pa_cons pe_int pa_nil))) pe_int)))
      (pss_cons (ps_set (i := 2) sc_law.nd rfl (Or.inl rfl) (pe_op op_add pe_int (pe_op op_mod (pe_op op_fdiv (pe_call G__law_cell_at (hr.mono (by omega)) (by rfl) T.m__law_cell_at T.F__law_cell_at.kp T.b__law_cell_at .nil pass0 (pa_cons (pv 0) (pa_cons pe_int pa_nil))) pe_int) pe_int)))
      (pss_cons (ps_if (pt_cmpR op_eq (pe_op op_mod (pe_op op_fdiv (pe_call G__law_cell_at (hr.mono (by omega)) (by rfl) T.m__law_cell_at T.F__law_cell_at.kp T.b__law_cell_at .nil pass0 (pa_cons (pv 0) (pa_cons pe_int pa_nil))) pe_int) pe_int) pe_int (nomark _)) (pss_cons (ps_set (i := 1) sc_law.nd rfl (Or.inl rfl) (pe_ix ix_list (pe_lst (pa_cons pe_int (pa_cons pe_int (pa_cons pe_int pa_nil)))) (pe_op op_mod (pe_op op_fdiv (pe_call G__law_cell_at (hr.mono (by omega)) (by rfl) T.m__law_cell_at T.F__law_cell_at.kp T.b__law_cell_at .nil pass0 (pa_cons (pv 0) (pa_cons pe_int pa_nil))) pe_int) pe_int) (fun _ _ => rfl)))
      (pss_one (ps_set (i := 2) sc_law.nd rfl (Or.inl rfl) (pe_ix ix_list (pe_lst (pa_cons pe_int (pa_cons pe_int (pa_cons pe_int pa_nil)))) (pe_op op_mod (pe_op op_fdiv (pe_call G__law_cell_at (hr.mono (by omega)) (by rfl) T.m__law_cell_at T.F__law_cell_at.kp T.b__law_cell_at .nil pass0 (pa_cons (pv 0) (pa_cons pe_int pa_nil))) pe_int) pe_int) (fun _ _ => rfl))))) pss_nil)
      (pss_cons (ps_set (i := 3) sc_law.nd rfl (Or.inl rfl) (pe_make T.K_Sheet G_Sheet_init (hr.mono (by omega)) (by rfl) T.m_Sheet T.b_Sheet_init .nil passL (pa_cons (pv 1) (pa_cons (pv 2) pa_nil))))
      (pss_cons (ps_set (i := 4) sc_law.nd rfl (Or.inl rfl) pe_dnewT)
      (pss_cons (ps_for PassesOwn.never rfl (pi_range1 rfl T.z_range (pa_cons (pe_op op_mul (pv 1) (pv 2)) pa_nil)) (pg_name (i := 5) sc_law.nd rfl (Or.inl rfl)) (pss_one (ps_dput (hu_of hr) (pv 4) (pe_tup (pa_cons (pe_op op_fdiv (pv 5) (pv 2)) (pa_cons (pe_op op_mod (pv 5) (pv 2)) pa_nil))) (pe_tup (pa_cons pe_str (pa_cons pe_int pa_nil))) rfl)))
      (pss_cons (ps_for PassesOwn.never rfl (pi_range1 rfl T.z_range (pa_cons pe_int pa_nil)) (pg_name (i := 5) sc_law.nd rfl (Or.inl rfl)) (pss_cons (ps_set (i := 8) sc_law.nd rfl (Or.inl rfl) (pe_op op_mod (pe_call G__law_cell_at (hr.mono (by omega)) (by rfl) T.m__law_cell_at T.F__law_cell_at.kp T.b__law_cell_at .nil pass0 (pa_cons (pv 0) (pa_cons (pe_op op_add pe_int (pv 5)) pa_nil))) (pe_op op_mul (pv 1) (pv 2))))
      (pss_cons (ps_dput (hu_of hr) (pv 4) (pe_tup (pa_cons (pe_op op_fdiv (pv 8) (pv 2)) (pa_cons (pe_op op_mod (pv 8) (pv 2)) pa_nil))) (pe_call G__law_drawn_rule (hr.mono (by omega)) (by rfl) T.m__law_drawn_rule T.F__law_drawn_rule.kp T.b__law_drawn_rule .nil pass0 (pa_cons (pv 0) (pa_cons (pv 5) (pa_cons (pv 1) (pa_cons (pv 2) pa_nil))))) rfl)
      (pss_one (ps_expr (pe_meth (pv 3) T.cl_Sheet T.M_Sheet_put G_Sheet_put (hr.mono (by omega)) T.b_Sheet_put .nil passL (pa_cons (pe_tup (pa_cons (pe_op op_fdiv (pv 8) (pv 2)) (pa_cons (pe_op op_mod (pv 8) (pv 2)) pa_nil))) (pa_cons (pe_dget (hu_of hr) (pv 4) (pe_tup (pa_cons (pe_op op_fdiv (pv 8) (pv 2)) (pa_cons (pe_op op_mod (pv 8) (pv 2)) pa_nil))) (fun _ _ => rfl)) pa_nil))))))))
      (pss_cons (ps_set (i := 6) sc_law.nd rfl (Or.inl rfl) (pe_tup (pa_cons (pe_op op_fdiv (pv 8) (pv 2)) (pa_cons (pe_op op_mod (pv 8) (pv 2)) pa_nil))))
      (pss_cons (ps_for PassesOwn.never rfl (pi_range1 rfl T.z_range (pa_cons (pe_op op_add pe_int (pe_op op_mod (pe_call G__law_cell_at (hr.mono (by omega)) (by rfl) T.m__law_cell_at T.F__law_cell_at.kp T.b__law_cell_at .nil pass0 (pa_cons (pv 0) (pa_cons pe_int pa_nil))) pe_int)) pa_nil)) (pg_name (i := 7) sc_law.nd rfl (Or.inl rfl)) (pss_cons (ps_set (i := 9) sc_law.nd rfl (Or.inl rfl) (pe_call G__law_corners (hr.mono (by omega)) (by rfl) T.m__law_corners T.F__law_corners.kp T.b__law_corners .nil pass0 (pa_cons (pv 0) (pa_cons (pv 7) (pa_cons (pv 1) (pa_cons (pv 2) pa_nil))))))
      (pss_cons (ps_set (i := 10) sc_law.nd rfl (Or.inl rfl) (pe_call G__law_cell_at (hr.mono (by omega)) (by rfl) T.m__law_cell_at T.F__law_cell_at.kp T.b__law_cell_at .nil pass0 (pa_cons (pv 0) (pa_cons (pe_op op_add pe_int (pe_op op_mul pe_int (pv 7))) pa_nil))))
      (pss_cons (ps_if (pt_cmpR op_eq (pe_op op_mod (pv 10) pe_int) pe_int (nomark _)) (pss_one (ps_asg (pv 6) (pg_sub (pv 9) pe_int set_list))) pss_nil)
      (pss_cons (ps_if (pt_cmpR op_eq (pe_op op_mod (pe_op op_fdiv (pv 10) pe_int) pe_int) pe_int (nomark _)) (pss_one (ps_asg (pe_ix ix_list (pv 9) pe_int (fun _ _ => rfl)) (pg_sub (pv 9) pe_int set_list))) pss_nil)
      (pss_cons (ps_set (i := 11) sc_law.nd rfl (Or.inl rfl) (pe_call G__law_due (hr.mono (by omega)) (by rfl) T.m__law_due T.F__law_due.kp T.b__law_due .nil pass0 (pa_cons (pv 4) (pa_cons (pv 9) (pa_cons (pv 1) (pa_cons (pv 2) pa_nil))))))
      (pss_cons (ps_if (pt_cmpR op_ne (pe_call G__law_done (hr.mono (by omega)) (by rfl) T.m__law_done T.F__law_done.kp T.b__law_done .nil pass0 (pa_cons (pv 3) (pa_cons (pv 9) (pa_cons (pe_cmpR op_eq (pe_op op_mod (pe_op op_fdiv (pv 10) pe_int) pe_int) pe_int (nomark _)) pa_nil)))) (pe_cmpR op_notN (pv 11) pe_non (nomark _)) (nomark _)) (pss_one (ps_ret pe_bl)) pss_nil)
      (pss_cons (ps_if (PW.pt (pw_and (pt_cmpR op_isN (pv 11) pe_non (nomark _)) (pw_and1 (pt_not (pt_val (pe_call G__law_refused_by_any (hr.mono (by omega)) (by rfl) T.m__law_refused_by_any T.F__law_refused_by_any.kp T.b__law_refused_by_any .nil pass0 (pa_cons (pv 3) (pa_cons (pv 9) (pa_cons (pe_cmpR op_eq (pe_op op_mod (pe_op op_fdiv (pv 10) pe_int) pe_int) pe_int (nomark _)) pa_nil))))))))) (pss_one (ps_ret pe_bl)) pss_nil)
      (pss_cons (ps_if (pt_cmpR op_notN (pv 11) pe_non (nomark _)) (pss_cons (ps_set (i := 4) sc_law.nd rfl (Or.inl rfl) (pv 11))
      (pss_one (ps_set (i := 6) sc_law.nd rfl (Or.inl rfl) (pe_ix ix_list (pv 9) pe_int (fun _ _ => rfl))))) pss_nil)
      (pss_one (ps_if (pt_not (pt_val (pe_call G__law_holds (hr.mono (by omega)) (by rfl) T.m__law_holds T.F__law_holds.kp T.b__law_holds .nil pass0 (pa_cons (pv 3) (pa_cons (pv 4) pa_nil))))) (pss_one (ps_ret pe_bl)) pss_nil)))))))))))
      (pss_one (ps_ret pe_bl))))))))))))
end
end K06

namespace K06
open PySem PySem.Spec L2 Pr Pl Pv Pq
open Evl (Ex rLenS rMax2 rListS)
open PyProof.Rows (envOfC)
/-! own words of the walk -/
local macro_rules | `(tactic| walk_at "side") => `(tactic| first
  | rfl | exact Pu.at_m1 | exact Pu.at_m1' | exact Pu.at_m1'' | exact Pu.at_m2 | exact Pu.at_m2' | exact Pu.at_m3 | exact Pu.at0 | exact Pu.at1 | exact Pu.at2 | exact Pu.at3 | exact Pu.at4 | assumption | decide | omega | exact ⟨by decide, by decide⟩ | exact ⟨by omega, by omega⟩ | exact Or.inr ⟨by omega, by omega⟩ | exact Or.inl ⟨by omega, by omega⟩ | exact Or.inr ⟨by decide, by decide⟩)
local macro_rules | `(tactic| walk_at "ec") => `(tactic| fail)
local macro_rules | `(tactic| walk_at "tab") => `(tactic| assumption)
local macro_rules | `(tactic| walk_at "shape") => `(tactic| first | rfl | assumption)
local macro_rules | `(tactic| walk_at "e") => `(tactic| first
  | exact ev_int | exact ev_str | exact ev_bl | exact ev_non | exact ev_var rfl
  | (apply ev_ixT; (walk_at "e"); (walk_at "e"); (walk_at "side"))
  | (apply ev_ixL; (walk_at "e"); (walk_at "e"); (walk_at "side"))
  | (apply ev_ixO; (walk_at "e"); (walk_at "e"); (rfl); (walk_at "side"))
  | (apply ev_I0; (walk_at "e"); (walk_at "e"); (rfl))
  | (apply ev_I0b; (walk_at "e"); (walk_at "e"); (rfl))
  | (apply ev_I; (walk_at "e"); (walk_at "e"); (rfl); (walk_at "side"))
  | (apply ev_neg; (walk_at "e"); (rfl))
  | (apply ev_eqI; (walk_at "e"); (walk_at "e"))
  | (apply ev_eqS; (walk_at "e"); (walk_at "e"))
  | (apply ev_eqB; (walk_at "e"); (walk_at "e"))
  | (apply ev_neI; (walk_at "e"); (walk_at "e"))
  | (apply ev_neS; (walk_at "e"); (walk_at "e"))
  | (apply ev_eqD; (walk_at "e"); (walk_at "e"); (walk_at "shape"); (walk_at "shape"))
  | (apply ev_neD; (walk_at "e"); (walk_at "e"); (walk_at "shape"); (walk_at "shape"))
  | (apply ev_andV; (walk_at "e"); (intro _; walk_at "e"))
  | (apply ev_orV; (walk_at "e"); (intro _; walk_at "e"))
  | (apply ev_notV; (walk_at "e"))
  | (apply ev_tup; (walk_at "s"); (exact Nat.le_of_ble_eq_true rfl))
  | (apply ev_lst; (walk_at "a"); (exact Nat.le_of_ble_eq_true rfl))
  | (apply ev_slT; (walk_at "e"); (walk_at "o"); (walk_at "o"); (rfl))
  | (apply ev_slL; (walk_at "e"); (walk_at "o"); (walk_at "o"))
  | (apply ev_lenT; (walk_at "e"))
  | (apply ev_len; (walk_at "l"))
  | (apply ev_min2; (walk_at "e"); (walk_at "e"))
  | (apply ev_max2; (walk_at "e"); (walk_at "e"))
  | (apply ev_isi; (walk_at "e"); (first | exact Pu.kb_int_int | exact Pu.kb_int_bool | exact Pu.kb_int_str | exact Pu.kb_int_list | exact Pu.kb_int_tuple | exact Pu.kb_bool_int | exact Pu.kb_bool_bool | exact Pu.kb_bool_str | exact Pu.kb_bool_list | exact Pu.kb_bool_tuple | exact Pu.kb_str_int | exact Pu.kb_str_bool | exact Pu.kb_str_str | exact Pu.kb_str_list | exact Pu.kb_str_tuple | exact Pu.kb_list_int | exact Pu.kb_list_bool | exact Pu.kb_list_str | exact Pu.kb_list_list | exact Pu.kb_list_tuple | exact Pu.kb_tuple_int | exact Pu.kb_tuple_bool | exact Pu.kb_tuple_str | exact Pu.kb_tuple_list | exact Pu.kb_tuple_tuple | exact Pu.kb_NoneType_int | exact Pu.kb_NoneType_bool | exact Pu.kb_NoneType_str | exact Pu.kb_NoneType_list | exact Pu.kb_NoneType_tuple))
  | (apply ev_intB; (walk_at "e"))
  | (apply ev_isN; (walk_at "e"))
  | (apply ev_tupT; (walk_at "e"))
  | (apply ev_tupL; (walk_at "l"))
  | (apply ev_listT; (walk_at "e"))
  | (apply ev_listL; (walk_at "l"))
  | (apply ev_catL; (walk_at "e"); (walk_at "e"); (walk_at "side"))
  | walk_at "ec")
local macro_rules | `(tactic| walk_at "l") => `(tactic| first
  | (apply el_dat; (walk_at "e"))
  | (apply el_ob; (walk_at "e"); (rfl))
  | (apply el_fr; (walk_at "e")))
local macro_rules | `(tactic| walk_at "o") => `(tactic| first
  | exact eo_none
  | (apply eo_some; (walk_at "e")))
local macro_rules | `(tactic| walk_at "a") => `(tactic| first
  | exact ea_nil
  | (apply ea_cons; (walk_at "e"); (walk_at "a")))
local macro_rules | `(tactic| walk_at "s") => `(tactic| first
  | exact ed_nil
  | (apply ed_cons; (walk_at "e"); (walk_at "s")))
local macro_rules | `(tactic| walk_at "b") => `(tactic| first
  | exact eb_yes
  | (apply eb_test; (walk_at "e"))
  | (apply eb_B; (walk_at "e"))
  | (apply eb_truB; (walk_at "e"))
  | (apply eb_truL; (walk_at "l"))
  | (apply eb_truI; (walk_at "e"))
  | (apply eb_not; (walk_at "b"))
  | (apply eb_and; (walk_at "b"); (intro _; walk_at "b"))
  | (apply eb_or; (walk_at "b"); (intro _; walk_at "b")))
section
variable {P : Program} {w : World} {K : PySem.W.Frag} {mg : Str → Option Value} {base : Heap}
/-! area -/
abbrev sp_area (K : PySem.W.Frag) : Sp := spP (α := Cor × Cor) K (fun a => [.dat a.1.d, .dat a.2.d]) (fun a => (areaP a.1.r a.1.c a.2.r a.2.c).length ≤ 50000) (fun a => dats (plD (areaP a.1.r a.1.c a.2.r a.2.c)))
theorem ok_area (T : Top K mg w) : FnOk P w K mg base CX0 1 T.a_area T.d_area ["one", "two"] (sp_area K) := by
  refine fn_p T.F_area sc_area (fun _ => rfl) fun cdv A outer s H E hr => ⟨_, B_area T hr, fun a hp st => ?_⟩
  obtain ⟨⟨r1, c1, x1⟩, ⟨r2, c2, x2⟩⟩ := a
  show Ws K _ _ [.dat (.tuple (.int r1 :: .int c1 :: x1)), .dat (.tuple (.int r2 :: .int c2 :: x2)), .no, .no, .no, .no] _ _
  apply w_seq
  apply w_asgR
  · walk_at "a"
  apply w_seq
  apply w_asgR
  · walk_at "a"
  refine w_ret (r := dats (plD (areaP r1 c1 r2 c2))) (ev_is (ev_lc2 (α := PyData) (β := PyData) (enc := It.dat) (enc1 := It.dat) (ok1 := fun _ => all) (fun _ => Pu.rngD (min c1 c2) (max c1 c2 + 1 - min c1 c2).toNat) (fun d d1 => .tuple [d, d1]) (ei_rngO rfl) True.intro ?_ (Pu.wipe_set (by decide)) (Pu.wipe_set (by decide)) ?_ (fun _ _ => True.intro) ?_) ?_) endF
  · rw [rngD_flat]
    unfold plD
    rw [List.length_map]
    exact hp
  · intro d hd
    exact ei_rngO rfl
  · intro d hd d1 hd1
    show Ev K _ _ _ _ (.dat (.tuple [d, d1]))
    exact ev_tup (ds := [d, d1]) (ea_cons (ev_var rfl) (ea_cons (ev_var rfl) ea_nil)) (Nat.le_of_ble_eq_true rfl)
  · rw [rngD_flat]
    rfl
theorem fc_area {es : Es} {st st1 : List Ob} {ta tb : TE} {a b : Cor} {E : XK} (h : EvA K (tCons ta (tCons tb tNil)) es st st1 [.dat a.d, .dat b.d]) (h0 : (areaP a.r a.c b.r b.c).length ≤ 50000) : Ev K (tCall (sp_area K) [] E (tCons ta (tCons tb tNil))) es st st1 (dats (plD (areaP a.r a.c b.r b.c))) :=
  ep_call (args := fun a : Cor × Cor => [It.dat a.1.d, .dat a.2.d]) (a, b) h h0
/-! inner_rules -/
abbrev sp_inner_rules (K : PySem.W.Frag) : Sp := spP (α := Rl) K (fun r => [.dat r.d]) (fun _ => True) (fun r => dats (r.inner.map Rl.d))
theorem ok_inner (T : Top K mg w) : FnOk P w K mg base CX0 1 T.a_inner_rules T.d_inner_rules ["rule"] (sp_inner_rules K) := by
  refine fn_p T.F_inner_rules sc_inner_rules (fun _ => rfl) fun cdv A outer s H E hr => ⟨_, B_inner_rules T hr, fun r hp st => ?_⟩
  show Ws K _ _ [.dat r.d, .no] _ _
  cases r with
  | num n =>
    refine w_ret (r := dats _) (ev_is (ev_lc (α := PyData) (enc := It.dat) (fun _ => true) (gx []) (ei_ixD ?_ T.D_RULES_AT_num) True.intro (Nat.le_of_ble_eq_true rfl) (Pu.wipe_set (by decide)) (fun _ _ => eb_yes) ?_) rfl) endF
    · walk_at "e"
    · exact fun d hd => nomatch hd
  | cell p =>
    refine w_ret (r := dats _) (ev_is (ev_lc (α := PyData) (enc := It.dat) (fun _ => true) (gx []) (ei_ixD ?_ T.D_RULES_AT_cell) True.intro (Nat.le_of_ble_eq_true rfl) (Pu.wipe_set (by decide)) (fun _ _ => eb_yes) ?_) rfl) endF
    · walk_at "e"
    · exact fun d hd => nomatch hd
  | add a b =>
    refine w_ret (r := dats _) (ev_is (ev_lc (α := PyData) (enc := It.dat) (fun _ => true) (gx [.str "add", a.d, b.d]) (ei_ixD ?_ T.D_RULES_AT_add) True.intro (Nat.le_of_ble_eq_true rfl) (Pu.wipe_set (by decide)) (fun _ _ => eb_yes) ?_) rfl) endF
    · walk_at "e"
    · refine List.forall_mem_cons.mpr ⟨fun _ => ?_, List.forall_mem_cons.mpr ⟨fun _ => ?_, fun d hd => nomatch hd⟩⟩ <;> walk_at "e"
  | sub a b =>
    refine w_ret (r := dats _) (ev_is (ev_lc (α := PyData) (enc := It.dat) (fun _ => true) (gx [.str "sub", a.d, b.d]) (ei_ixD ?_ T.D_RULES_AT_sub) True.intro (Nat.le_of_ble_eq_true rfl) (Pu.wipe_set (by decide)) (fun _ _ => eb_yes) ?_) rfl) endF
    · walk_at "e"
    · refine List.forall_mem_cons.mpr ⟨fun _ => ?_, List.forall_mem_cons.mpr ⟨fun _ => ?_, fun d hd => nomatch hd⟩⟩ <;> walk_at "e"
  | mul a b =>
    refine w_ret (r := dats _) (ev_is (ev_lc (α := PyData) (enc := It.dat) (fun _ => true) (gx [.str "mul", a.d, b.d]) (ei_ixD ?_ T.D_RULES_AT_mul) True.intro (Nat.le_of_ble_eq_true rfl) (Pu.wipe_set (by decide)) (fun _ _ => eb_yes) ?_) rfl) endF
    · walk_at "e"
    · refine List.forall_mem_cons.mpr ⟨fun _ => ?_, List.forall_mem_cons.mpr ⟨fun _ => ?_, fun d hd => nomatch hd⟩⟩ <;> walk_at "e"
  | pick a b c =>
    refine w_ret (r := dats _) (ev_is (ev_lc (α := PyData) (enc := It.dat) (fun _ => true) (gx [.str "pick", a.d, b.d, c.d]) (ei_ixD ?_ T.D_RULES_AT_pick) True.intro (Nat.le_of_ble_eq_true rfl) (Pu.wipe_set (by decide)) (fun _ _ => eb_yes) ?_) rfl) endF
    · walk_at "e"
    · refine List.forall_mem_cons.mpr ⟨fun _ => ?_, List.forall_mem_cons.mpr ⟨fun _ => ?_, List.forall_mem_cons.mpr ⟨fun _ => ?_, fun d hd => nomatch hd⟩⟩⟩ <;> walk_at "e"
  | sum p q =>
    refine w_ret (r := dats _) (ev_is (ev_lc (α := PyData) (enc := It.dat) (fun _ => true) (gx []) (ei_ixD ?_ T.D_RULES_AT_sum) True.intro (Nat.le_of_ble_eq_true rfl) (Pu.wipe_set (by decide)) (fun _ _ => eb_yes) ?_) rfl) endF
    · walk_at "e"
    · exact fun d hd => nomatch hd
  | most p q =>
    refine w_ret (r := dats _) (ev_is (ev_lc (α := PyData) (enc := It.dat) (fun _ => true) (gx []) (ei_ixD ?_ T.D_RULES_AT_most) True.intro (Nat.le_of_ble_eq_true rfl) (Pu.wipe_set (by decide)) (fun _ _ => eb_yes) ?_) rfl) endF
    · walk_at "e"
    · exact fun d hd => nomatch hd
  | look a p q b =>
    refine w_ret (r := dats _) (ev_is (ev_lc (α := PyData) (enc := It.dat) (fun _ => true) (gx [.str "look", a.d, p.d, q.d, b.d]) (ei_ixD ?_ T.D_RULES_AT_look) True.intro (Nat.le_of_ble_eq_true rfl) (Pu.wipe_set (by decide)) (fun _ _ => eb_yes) ?_) rfl) endF
    · walk_at "e"
    · refine List.forall_mem_cons.mpr ⟨fun _ => ?_, List.forall_mem_cons.mpr ⟨fun _ => ?_, fun d hd => nomatch hd⟩⟩ <;> walk_at "e"
theorem fc_inner {es : Es} {st st1 : List Ob} {ta : TE} {r : Rl} {E : XK} (h : Ev K ta es st st1 (.dat r.d)) : Ev K (tCall (sp_inner_rules K) [] E (tCons ta tNil)) es st st1 (dats (r.inner.map Rl.d)) :=
  ep_call (args := fun r : Rl => [It.dat r.d]) r (ea_cons h ea_nil) True.intro
theorem ev_inner {es : Es} {st : List Ob} {i : Nat} {r : Rl} {E : XK} (h : es[i]? = some (.dat r.d)) : EvI K (iList K (tCall (sp_inner_rules K) [] E (tCons (tVar i) tNil))) es st st all (r.inner.map fun r => It.dat r.d) := by
  have q := ei_fr (K := K) (fc_inner (K := K) (E := E) (st := st) (ev_var h))
  rw [List.map_map] at q
  exact q
/-! references -/
abbrev sp_references (K : PySem.W.Frag) : Sp := spP (α := Rl) K (fun r => [.dat r.d]) (fun _ => True) (fun r => dats ((refs r).map Rf.d))
theorem ok_refs (T : Top K mg w) : FnOk P w K mg base CX0 1 T.a_references T.d_references ["rule"] (sp_references K) := by
  refine fn_p T.F_references sc_references (fun _ => rfl) fun cdv A outer s H E hr => ⟨_, B_references T hr, fun r hp st => ?_⟩
  show Ws K _ _ [.dat r.d, .no] _ _
  cases r with
  | num n =>
    refine w_ret (r := dats _) (ev_is (ev_lc (α := PyData) (enc := It.dat) (fun _ => true) (gx []) (ei_ixD ?_ T.D_REFERENCES_AT_num) True.intro (Nat.le_of_ble_eq_true rfl) (Pu.wipe_set (by decide)) (fun _ _ => eb_yes) ?_) rfl) endF
    · walk_at "e"
    · exact fun d hd => nomatch hd
  | cell p =>
    refine w_ret (r := dats _) (ev_is (ev_lc (α := PyData) (enc := It.dat) (fun _ => true) (gx [.str "cell", p.d]) (ei_ixD ?_ T.D_REFERENCES_AT_cell) True.intro (Nat.le_of_ble_eq_true rfl) (Pu.wipe_set (by decide)) (fun _ _ => eb_yes) ?_) rfl) endF
    · walk_at "e"
    · refine List.forall_mem_cons.mpr ⟨fun _ => ?_, fun d hd => nomatch hd⟩ <;> walk_at "e"
  | add a b =>
    refine w_ret (r := dats _) (ev_is (ev_lc (α := PyData) (enc := It.dat) (fun _ => true) (gx []) (ei_ixD ?_ T.D_REFERENCES_AT_add) True.intro (Nat.le_of_ble_eq_true rfl) (Pu.wipe_set (by decide)) (fun _ _ => eb_yes) ?_) rfl) endF
    · walk_at "e"
    · exact fun d hd => nomatch hd
  | sub a b =>
    refine w_ret (r := dats _) (ev_is (ev_lc (α := PyData) (enc := It.dat) (fun _ => true) (gx []) (ei_ixD ?_ T.D_REFERENCES_AT_sub) True.intro (Nat.le_of_ble_eq_true rfl) (Pu.wipe_set (by decide)) (fun _ _ => eb_yes) ?_) rfl) endF
    · walk_at "e"
    · exact fun d hd => nomatch hd
  | mul a b =>
    refine w_ret (r := dats _) (ev_is (ev_lc (α := PyData) (enc := It.dat) (fun _ => true) (gx []) (ei_ixD ?_ T.D_REFERENCES_AT_mul) True.intro (Nat.le_of_ble_eq_true rfl) (Pu.wipe_set (by decide)) (fun _ _ => eb_yes) ?_) rfl) endF
    · walk_at "e"
    · exact fun d hd => nomatch hd
  | pick a b c =>
    refine w_ret (r := dats _) (ev_is (ev_lc (α := PyData) (enc := It.dat) (fun _ => true) (gx []) (ei_ixD ?_ T.D_REFERENCES_AT_pick) True.intro (Nat.le_of_ble_eq_true rfl) (Pu.wipe_set (by decide)) (fun _ _ => eb_yes) ?_) rfl) endF
    · walk_at "e"
    · exact fun d hd => nomatch hd
  | sum p q =>
    refine w_ret (r := dats _) (ev_is (ev_lc (α := PyData) (enc := It.dat) (fun _ => true) (gx [.str "sum", p.d, q.d]) (ei_ixD ?_ T.D_REFERENCES_AT_sum) True.intro (Nat.le_of_ble_eq_true rfl) (Pu.wipe_set (by decide)) (fun _ _ => eb_yes) ?_) rfl) endF
    · walk_at "e"
    · refine List.forall_mem_cons.mpr ⟨fun _ => ?_, List.forall_mem_cons.mpr ⟨fun _ => ?_, fun d hd => nomatch hd⟩⟩ <;> walk_at "e"
  | most p q =>
    refine w_ret (r := dats _) (ev_is (ev_lc (α := PyData) (enc := It.dat) (fun _ => true) (gx [.str "most", p.d, q.d]) (ei_ixD ?_ T.D_REFERENCES_AT_most) True.intro (Nat.le_of_ble_eq_true rfl) (Pu.wipe_set (by decide)) (fun _ _ => eb_yes) ?_) rfl) endF
    · walk_at "e"
    · refine List.forall_mem_cons.mpr ⟨fun _ => ?_, List.forall_mem_cons.mpr ⟨fun _ => ?_, fun d hd => nomatch hd⟩⟩ <;> walk_at "e"
  | look a p q b =>
    refine w_ret (r := dats _) (ev_is (ev_lc (α := PyData) (enc := It.dat) (fun _ => true) (gx [.str "look", a.d, p.d, q.d, b.d]) (ei_ixD ?_ T.D_REFERENCES_AT_look) True.intro (Nat.le_of_ble_eq_true rfl) (Pu.wipe_set (by decide)) (fun _ _ => eb_yes) ?_) rfl) endF
    · walk_at "e"
    · refine List.forall_mem_cons.mpr ⟨fun _ => ?_, List.forall_mem_cons.mpr ⟨fun _ => ?_, fun d hd => nomatch hd⟩⟩ <;> walk_at "e"
theorem fc_refs {es : Es} {st st1 : List Ob} {ta : TE} {r : Rl} {E : XK} (h : Ev K ta es st st1 (.dat r.d)) : Ev K (tCall (sp_references K) [] E (tCons ta tNil)) es st st1 (dats ((refs r).map Rf.d)) :=
  ep_call (args := fun r : Rl => [It.dat r.d]) r (ea_cons h ea_nil) True.intro
/-! outer_first -/
abbrev sp_outer_first (K : PySem.W.Frag) : Sp := spP (α := Rl) K (fun r => [.dat r.d]) (fun r => r.size ≤ 1000) (fun r => dats (r.outer.map Rl.d))
theorem ok_outer (T : Top K mg w) : FnOk P w K mg base CX0 2 T.a_outer_first T.d_outer_first ["rule"] (sp_outer_first K) := by
  refine fn_p T.F_outer_first sc_outer_first (fun _ => rfl) fun cdv A outer s H E hr => ⟨_, B_outer_first T (ok_inner T) (by decide) hr, fun r hp st => ?_⟩
  show Ws K _ _ [.dat r.d, .no, .no, .no] _ _
  apply w_seq
  refine w_asg (x := .ob st.length) (ev_store (ev_lst (xs := []) ea_nil (Nat.zero_le _))) ?_
  apply w_seq
  refine w_asg (x := .ob (st.length + 1)) (st1 := st ++ [.lst [], .lst (its [r])]) (ev_st (ev_is (ev_store (st := st ++ [.lst []]) (st1 := st ++ [.lst []]) (o := .lst (its [r])) (ev_lst (xs := its [r]) (ea_cons (ev_var rfl) ea_nil) (Nat.le_of_ble_eq_true rfl))) (by simp)) (by simp)) ?_
  apply w_seq
  refine w_while (fun m e s => ∃ F W x, s = st ++ [.lst (its F), .lst (its W)] ∧ F ++ W.reverse.flatMap Rl.outer = r.outer ∧ m = (W.map Rl.size).sum ∧ e = [.dat r.d, .ob st.length, .ob (st.length + 1), x]) _ ⟨[], [r], _, rfl, by simp, rfl, rfl⟩ ?_
  rintro m e s ⟨F, W, x, rfl, hF, rfl, rfl⟩
  have hlen : F.length + (W.map Rl.size).sum ≤ 1000 := by
    have h := congrArg List.length hF
    rw [List.length_append, Rl.flat_len, Rl.outer_len] at h
    have : r.size ≤ 1000 := hp
    omega
  refine ⟨_, _, eb_truL (el_ob (ev_var rfl) get1), fun hb => ?_, fun hb => ?_⟩
  · rcases List.eq_nil_or_concat W with rfl | ⟨W', y, rfl⟩
    · cases hb
    rw [List.concat_eq_append] at hF hlen ⊢
    have e0 := Rl.size_inner y
    rw [List.map_append, List.sum_append] at hlen
    have hlen : F.length + ((W'.map Rl.size).sum + y.size) ≤ 1000 := by simpa using hlen
    have l1 := Rl.len_le W'
    have l2 := Rl.len_le y.inner
    apply w_seq
    refine w_asg (x := .dat y.d) (st1 := st ++ [.lst (its F), .lst (its W')]) (ev_st (ev_pop (xs := its W') (ev_var rfl) ?_) set1) ?_
    · rw [get1, its_ap]
      rfl
    apply w_seq
    refine w_append (ev_var rfl) ⟨_, get0⟩ (ev_var rfl) get0 (by rw [its_ln]; omega) ?_
    rw [set0]
    refine w_extendF (ys := its y.inner) (ev_var rfl) ⟨_, get1⟩ (fc_inner (ev_var rfl)) get1 (by rw [its_ln, its_ln]; omega) ?_
    rw [set1]
    refine ⟨((W' ++ y.inner).map Rl.size).sum, ?_, F ++ [y], W' ++ y.inner, .dat y.d, ?_, ?_, rfl, rfl⟩
    · rw [List.map_append, List.sum_append, List.map_append, List.sum_append]
      simp only [List.map_cons, List.map_nil, List.sum_cons, List.sum_nil]
      omega
    · rw [its_ap, its_ap]
      rfl
    · rw [← hF, List.reverse_append, List.reverse_append, List.flatMap_append, List.flatMap_append, List.append_assoc]
      simp only [List.reverse_cons, List.reverse_nil, List.nil_append, List.flatMap_cons, List.flatMap_nil, List.append_nil]
      rw [Rl.outer_eq y]
      rfl
  · have hW : W = [] := by
      cases W with
      | nil => rfl
      | cons a b => cases hb
    subst hW
    have hF' : F = r.outer := by simpa using hF
    subst hF'
    exact w_ret (ev_var rfl) ⟨_, rfl, .inr ⟨st.length, _, rfl, Nat.le_refl _, get0, rfl, ok_dats, fun z => nomatch z⟩⟩
theorem fc_outer {es : Es} {st st1 : List Ob} {ta : TE} {r : Rl} {E : XK} (h : Ev K ta es st st1 (.dat r.d)) (hz : r.size ≤ 1000) : Ev K (tCall (sp_outer_first K) [] E (tCons ta tNil)) es st st1 (dats (r.outer.map Rl.d)) :=
  ep_call (args := fun r : Rl => [It.dat r.d]) r (ea_cons h ea_nil) hz
/-! deep -/
/-! ### how deep a rule is -/
abbrev sp_deep (K : PySem.W.Frag) : Sp := spP (α := Rl) K (fun r => [.dat r.d]) (fun r => r.size ≤ 1000) (fun r => .dat (.int (dp r : Nat)))
theorem ok_deep (T : Top K mg w) : FnOk P w K mg base CX0 2 T.a_deep T.d_deep ["rule"] (sp_deep K) := by
  refine fn_p T.F_deep sc_deep (fun _ => rfl) fun cdv A outer s H E hr => ⟨_, B_deep T (ok_inner T) (by decide) hr, fun r hp st => ?_⟩
  have hp : r.size ≤ 1000 := hp
  show Ws K _ _ [.dat r.d, .no, .no, .no, .no] _ _
  apply w_seq
  apply w_asg
  · walk_at "e"
  apply w_seq
  refine w_asg (x := .dat (.list ([r].map Rl.d))) (ev_share (ev_lst (xs := ([r].map Rl.d).map It.dat) (ea_cons (ev_var rfl) ea_nil) (Nat.le_of_ble_eq_true rfl))) ?_
  apply w_seq
  refine w_while (fun m e s => s = st ∧ ∃ (k : Nat) (L : List Rl), k + mx L = dp r ∧ m = mx L ∧ (L.map Rl.size).sum ≤ 1000 ∧ e = [.dat r.d, .dat (.int k), .dat (.list (L.map Rl.d)), .no, .no]) _ ⟨rfl, 0, [r], by rw [mx_cons, mx_nil]; omega, rfl, by simpa using hp, rfl⟩ ?_
  rintro m e s ⟨rfl, k, L, hk, rfl, hz, rfl⟩
  refine ⟨_, _, eb_truL (el_dat (ev_var rfl)), fun hb => ?_, fun hb => ?_⟩
  · cases L with
    | nil => cases hb
    | cons x L =>
      have e1 := mx_flat x L
      have e2 := sz_flat (x :: L)
      have e3 := Rl.len_le ((x :: L).flatMap Rl.inner)
      apply w_seq
      apply w_aug rfl
      · walk_at "e"
      refine w_asg (x := .dat (.list (((x :: L).flatMap Rl.inner).map Rl.d))) (ev_share (ev_is (ev_lc2 (as := x :: L) (enc := fun r => It.dat r.d) (enc1 := fun r => It.dat r.d) (ok1 := fun _ => all) Rl.inner (fun _ y => y.d) (ev_list rfl) True.intro ?_ (Pu.wipe_set (by decide)) (Pu.wipe_set (by decide)) (fun d hd => ev_inner rfl) (fun _ _ => True.intro) fun d hd y hy => ev_var rfl) ?_)) ?_
      · rw [← List.map_flatMap, List.length_map]
        omega
      · rw [← List.map_flatMap]
      · exact ⟨mx ((x :: L).flatMap Rl.inner), by omega, rfl, k + 1, (x :: L).flatMap Rl.inner, by omega, rfl, by omega, rfl⟩
  · cases L with
    | cons a b => cases hb
    | nil =>
      rw [mx_nil] at hk
      refine w_ret (r := .dat (.int (k : Nat))) (ev_var rfl) ?_
      have e : (k : Int) = (dp r : Nat) := by omega
      rw [e]
      exact endP
/-! moved -/
abbrev sp_moved (K : PySem.W.Frag) : Sp := spP (α := Rf × Int × Int) K (fun a => [.dat a.1.d, .dat (.int a.2.1), .dat (.int a.2.2)]) (fun _ => True) (fun a => .dat (mv a.1 a.2.1 a.2.2).d)
theorem ok_moved (T : Top K mg w) : FnOk P w K mg base CX0 1 T.a_moved T.d_moved ["reference", "down", "right"] (sp_moved K) := by
  refine fn_p T.F_moved sc_moved (fun _ => rfl) fun cdv A outer s H E hr => ⟨_, B_moved T hr, fun a hp st => ?_⟩
  obtain ⟨⟨r, c, rs, cs⟩, dn, rt⟩ := a
  show Ws K _ _ [.dat (.tuple [.int r, .int c, .bool rs, .bool cs]), .dat (.int dn), .dat (.int rt), .no, .no, .no, .no] _ _
  apply w_seq
  apply w_asgT (ev_var rfl) (tg_tup (ds := [.int r, .int c, .bool rs, .bool cs]) (tga_cons tg_name (tga_cons tg_name (tga_cons tg_name (tga_cons tg_name tga_nil)))) rfl)
  apply w_seq
  apply w_if
  · walk_at "b"
  · intro hrs
    apply w_asg
    · walk_at "e"
    apply w_seq
    apply w_if
    · walk_at "b"
    · intro hcs
      apply w_asg
      · walk_at "e"
      apply w_ret
      · walk_at "e"
      · cases rs <;> cases cs <;> first | exact endP | exact absurd hrs (by decide) | exact absurd hcs (by decide)
    · intro hcs
      apply w_next
      apply w_ret
      · walk_at "e"
      · cases rs <;> cases cs <;> first | exact endP | exact absurd hrs (by decide) | exact absurd hcs (by decide)
  · intro hrs
    apply w_next
    apply w_seq
    apply w_if
    · walk_at "b"
    · intro hcs
      apply w_asg
      · walk_at "e"
      apply w_ret
      · walk_at "e"
      · cases rs <;> cases cs <;> first | exact endP | exact absurd hrs (by decide) | exact absurd hcs (by decide)
    · intro hcs
      apply w_next
      apply w_ret
      · walk_at "e"
      · cases rs <;> cases cs <;> first | exact endP | exact absurd hrs (by decide) | exact absurd hcs (by decide)
theorem ec_moved {es : Es} {st st1 st2 st3 : List Ob} {ta tb tc : TE} {x : Rf} {dn rt : Int} {E : XK} (h : Ev K ta es st st1 (.dat x.d)) (h2 : Ev K tb es st1 st2 (.dat (.int dn))) (h3 : Ev K tc es st2 st3 (.dat (.int rt))) : Ev K (tCall (sp_moved K) [] E (tCons ta (tCons tb (tCons tc tNil)))) es st st3 (.dat (mv x dn rt).d) :=
  ep_call (args := fun a : Rf × Int × Int => [It.dat a.1.d, .dat (.int a.2.1), .dat (.int a.2.2)]) (x, dn, rt) (ea_cons h (ea_cons h2 (ea_cons h3 ea_nil))) True.intro
/-! shifted -/
abbrev sp_shifted (K : PySem.W.Frag) : Sp := spP (α := Rl × Int × Int) K (fun a => [.dat a.1.d, .dat (.int a.2.1), .dat (.int a.2.2)]) (fun a => a.1.size ≤ 1000) (fun a => .dat (sh a.2.1 a.2.2 a.1).d)
theorem ok_shifted (T : Top K mg w) : FnOk P w K mg base CX0 3 T.a_shifted T.d_shifted ["rule", "down", "right"] (sp_shifted K) := by
  refine fn_p T.F_shifted sc_shifted (fun _ => rfl) fun cdv A outer s H E hr => ⟨_, B_shifted T (ok_moved T) (by decide) (ok_outer T) (by decide) hr, fun a hp st => ?_⟩
  obtain ⟨r, dn, rt⟩ := a
  have hp : r.size ≤ 1000 := hp
  show Ws K _ _ [.dat r.d, .dat (.int dn), .dat (.int rt), .no, .no, .no, .no] _ _
  apply w_seq
  refine w_asg (x := .ob st.length) (ev_store (ev_lst (xs := []) ea_nil (Nat.zero_le _))) ?_
  apply w_seq
  refine w_forN (ei_revL (ev_share (fc_outer (ev_var rfl) hp))) (fun i e s => ∃ T' x4 x5 x6 g, Stk (sh dn rt) (sh dn rt r) (r.outer.reverse.drop i) T' ∧ T'.length ≤ i ∧ s = st ++ (.lst (its T') :: g) ∧ e = [.dat r.d, .dat (.int dn), .dat (.int rt), .ob st.length, x4, x5, x6])
    ⟨[], _, _, _, [], stk_all (sh dn rt) r, Nat.le_refl _, rfl, rfl⟩ (fun _ _ _ _ => True.intro) ?_ ?_
  · rintro i x e s hd ⟨st', x4, x5, x6, g, hG, hl, rfl, rfl⟩
    rw [← List.map_reverse, ← List.map_reverse, List.getElem?_map, List.getElem?_map, Option.map_map] at hd
    obtain ⟨n, hn, rfl⟩ := Option.map_eq_some_iff.mp hd
    obtain ⟨hi, hgn⟩ := List.getElem?_eq_some_iff.mp hn
    rw [List.drop_eq_getElem_cons hi, hgn] at hG
    obtain ⟨T', rfl, hG⟩ := hG
    have hi2 : i < 1000 := by
      rw [List.length_reverse, Rl.outer_len] at hi
      omega
    rw [List.length_append] at hl
    have hG2 : (T' ++ [sh dn rt n]).length ≤ i + 1 := by
      rw [List.length_append]
      show T'.length + 1 ≤ i + 1
      omega
    have hz : (its T').length < 100000 := by
      rw [its_ln]
      omega
    have two : ∀ (a b : Rl), its (T' ++ [sh dn rt a, sh dn rt b]) = (its T' ++ [.dat (sh dn rt a).d]) ++ [.dat (sh dn rt b).d] := fun a b => by simp
    have three : ∀ (a b c : Rl), its (T' ++ [sh dn rt a, sh dn rt b, sh dn rt c]) = ((its T' ++ [.dat (sh dn rt a).d]) ++ [.dat (sh dn rt b).d]) ++ [.dat (sh dn rt c).d] := fun a b c => by simp
    have hk1 : ∀ {a : Ob}, Rv.ob (st ++ (a :: g)).length = Rv.it (.ob (st.length + (1 + g.length))) := fun {a} => by
      rw [List.length_append, List.length_cons, Nat.add_comm g.length]
    have hk2 : ∀ {a p : Ob}, (st ++ (a :: g)) ++ [p] = st ++ a :: (g ++ [p]) := fun {a p} => by simp
    have fin : ∀ (y4 y5 y6 : Ent) (g' : List Ob), ∃ T2 x4 x5 x6 g2, Stk (sh dn rt) (sh dn rt r) (r.outer.reverse.drop (i + 1)) T2 ∧ T2.length ≤ i + 1 ∧ st ++ (Ob.lst (its T' ++ [.dat (sh dn rt n).d]) :: g') = st ++ (.lst (its T2) :: g2) ∧ [Ent.dat r.d, .dat (.int dn), .dat (.int rt), .ob st.length, y4, y5, y6] = [.dat r.d, .dat (.int dn), .dat (.int rt), .ob st.length, x4, x5, x6] :=
      fun y4 y5 y6 g' => ⟨_, y4, y5, y6, g', hG, hG2, by rw [its_ap]; rfl, rfl⟩
    cases n with
    | num m =>
      rw [show T' ++ (Rl.num m).inner.map (sh dn rt) = T' from List.append_nil _]
      apply w_seq
      refine w_asg (ev_st (ev_is (ev_store (ev_listT (ev_var rfl))) hk1) hk2) ?_
      apply w_seq
      refine w_forU (ei_ixD (ev_ixT (ev_var rfl) ev_int Pu.at0) T.D_REFERENCES_AT_num) ?_
      apply w_seq
      refine w_forU (ei_revD (ev_ixT (ev_var rfl) ev_int Pu.at0) T.D_RULES_AT_num) ?_
      refine w_append (ev_var rfl) ⟨_, getA⟩ (ev_tupL (ds := (sh dn rt (Rl.num m)).parts.map Pt.d) (el_ob (ev_var rfl) getP)) getA hz ?_
      rw [setA]
      exact fin _ _ _ _
    | cell p =>
      rw [show T' ++ (Rl.cell p).inner.map (sh dn rt) = T' from List.append_nil _]
      apply w_seq
      refine w_asg (ev_st (ev_is (ev_store (ev_listT (ev_var rfl))) hk1) hk2) ?_
      apply w_seq
      refine w_forU (ei_ixD (ev_ixT (ev_var rfl) ev_int Pu.at0) T.D_REFERENCES_AT_cell) ?_
      refine w_setL (ec_moved (ev_ixO (ev_var rfl) (ev_var rfl) getP rfl) (ev_var rfl) (ev_var rfl)) (ev_var rfl) (ev_var rfl) getP rfl ?_
      rw [setP]
      apply w_seq
      refine w_forU (ei_revD (ev_ixT (ev_var rfl) ev_int Pu.at0) T.D_RULES_AT_cell) ?_
      refine w_append (ev_var rfl) ⟨_, getA⟩ (ev_tupL (ds := (sh dn rt (Rl.cell p)).parts.map Pt.d) (el_ob (ev_var rfl) getP)) getA hz ?_
      rw [setA]
      exact fin _ _ _ _
    | sum p q =>
      rw [show T' ++ (Rl.sum p q).inner.map (sh dn rt) = T' from List.append_nil _]
      apply w_seq
      refine w_asg (ev_st (ev_is (ev_store (ev_listT (ev_var rfl))) hk1) hk2) ?_
      apply w_seq
      refine w_forU (ei_ixD (ev_ixT (ev_var rfl) ev_int Pu.at0) T.D_REFERENCES_AT_sum) ?_
      refine w_setL (ec_moved (ev_ixO (ev_var rfl) (ev_var rfl) getP rfl) (ev_var rfl) (ev_var rfl)) (ev_var rfl) (ev_var rfl) getP rfl ?_
      rw [setP]
      refine w_setL (ec_moved (ev_ixO (ev_var rfl) (ev_var rfl) getP rfl) (ev_var rfl) (ev_var rfl)) (ev_var rfl) (ev_var rfl) getP rfl ?_
      rw [setP]
      apply w_seq
      refine w_forU (ei_revD (ev_ixT (ev_var rfl) ev_int Pu.at0) T.D_RULES_AT_sum) ?_
      refine w_append (ev_var rfl) ⟨_, getA⟩ (ev_tupL (ds := (sh dn rt (Rl.sum p q)).parts.map Pt.d) (el_ob (ev_var rfl) getP)) getA hz ?_
      rw [setA]
      exact fin _ _ _ _
    | most p q =>
      rw [show T' ++ (Rl.most p q).inner.map (sh dn rt) = T' from List.append_nil _]
      apply w_seq
      refine w_asg (ev_st (ev_is (ev_store (ev_listT (ev_var rfl))) hk1) hk2) ?_
      apply w_seq
      refine w_forU (ei_ixD (ev_ixT (ev_var rfl) ev_int Pu.at0) T.D_REFERENCES_AT_most) ?_
      refine w_setL (ec_moved (ev_ixO (ev_var rfl) (ev_var rfl) getP rfl) (ev_var rfl) (ev_var rfl)) (ev_var rfl) (ev_var rfl) getP rfl ?_
      rw [setP]
      refine w_setL (ec_moved (ev_ixO (ev_var rfl) (ev_var rfl) getP rfl) (ev_var rfl) (ev_var rfl)) (ev_var rfl) (ev_var rfl) getP rfl ?_
      rw [setP]
      apply w_seq
      refine w_forU (ei_revD (ev_ixT (ev_var rfl) ev_int Pu.at0) T.D_RULES_AT_most) ?_
      refine w_append (ev_var rfl) ⟨_, getA⟩ (ev_tupL (ds := (sh dn rt (Rl.most p q)).parts.map Pt.d) (el_ob (ev_var rfl) getP)) getA hz ?_
      rw [setA]
      exact fin _ _ _ _
    | add a b =>
      rw [show T' ++ (Rl.add a b).inner.map (sh dn rt) = T' ++ [sh dn rt a, sh dn rt b] from rfl, two]
      apply w_seq
      refine w_asg (ev_st (ev_is (ev_store (ev_listT (ev_var rfl))) hk1) hk2) ?_
      apply w_seq
      refine w_forU (ei_ixD (ev_ixT (ev_var rfl) ev_int Pu.at0) T.D_REFERENCES_AT_add) ?_
      apply w_seq
      refine w_forU (ei_revD (ev_ixT (ev_var rfl) ev_int Pu.at0) T.D_RULES_AT_add) ?_
      refine w_setL (ev_st (ev_pop (ev_var rfl) getA) setA) (ev_var rfl) (ev_var rfl) getP rfl ?_
      rw [setP]
      refine w_setL (ev_st (ev_pop (ev_var rfl) getA) setA) (ev_var rfl) (ev_var rfl) getP rfl ?_
      rw [setP]
      refine w_append (ev_var rfl) ⟨_, getA⟩ (ev_tupL (ds := (sh dn rt (Rl.add a b)).parts.map Pt.d) (el_ob (ev_var rfl) getP)) getA hz ?_
      rw [setA]
      exact fin _ _ _ _
    | sub a b =>
      rw [show T' ++ (Rl.sub a b).inner.map (sh dn rt) = T' ++ [sh dn rt a, sh dn rt b] from rfl, two]
      apply w_seq
      refine w_asg (ev_st (ev_is (ev_store (ev_listT (ev_var rfl))) hk1) hk2) ?_
      apply w_seq
      refine w_forU (ei_ixD (ev_ixT (ev_var rfl) ev_int Pu.at0) T.D_REFERENCES_AT_sub) ?_
      apply w_seq
      refine w_forU (ei_revD (ev_ixT (ev_var rfl) ev_int Pu.at0) T.D_RULES_AT_sub) ?_
      refine w_setL (ev_st (ev_pop (ev_var rfl) getA) setA) (ev_var rfl) (ev_var rfl) getP rfl ?_
      rw [setP]
      refine w_setL (ev_st (ev_pop (ev_var rfl) getA) setA) (ev_var rfl) (ev_var rfl) getP rfl ?_
      rw [setP]
      refine w_append (ev_var rfl) ⟨_, getA⟩ (ev_tupL (ds := (sh dn rt (Rl.sub a b)).parts.map Pt.d) (el_ob (ev_var rfl) getP)) getA hz ?_
      rw [setA]
      exact fin _ _ _ _
    | mul a b =>
      rw [show T' ++ (Rl.mul a b).inner.map (sh dn rt) = T' ++ [sh dn rt a, sh dn rt b] from rfl, two]
      apply w_seq
      refine w_asg (ev_st (ev_is (ev_store (ev_listT (ev_var rfl))) hk1) hk2) ?_
      apply w_seq
      refine w_forU (ei_ixD (ev_ixT (ev_var rfl) ev_int Pu.at0) T.D_REFERENCES_AT_mul) ?_
      apply w_seq
      refine w_forU (ei_revD (ev_ixT (ev_var rfl) ev_int Pu.at0) T.D_RULES_AT_mul) ?_
      refine w_setL (ev_st (ev_pop (ev_var rfl) getA) setA) (ev_var rfl) (ev_var rfl) getP rfl ?_
      rw [setP]
      refine w_setL (ev_st (ev_pop (ev_var rfl) getA) setA) (ev_var rfl) (ev_var rfl) getP rfl ?_
      rw [setP]
      refine w_append (ev_var rfl) ⟨_, getA⟩ (ev_tupL (ds := (sh dn rt (Rl.mul a b)).parts.map Pt.d) (el_ob (ev_var rfl) getP)) getA hz ?_
      rw [setA]
      exact fin _ _ _ _
    | look a p q b =>
      rw [show T' ++ (Rl.look a p q b).inner.map (sh dn rt) = T' ++ [sh dn rt a, sh dn rt b] from rfl, two]
      apply w_seq
      refine w_asg (ev_st (ev_is (ev_store (ev_listT (ev_var rfl))) hk1) hk2) ?_
      apply w_seq
      refine w_forU (ei_ixD (ev_ixT (ev_var rfl) ev_int Pu.at0) T.D_REFERENCES_AT_look) ?_
      refine w_setL (ec_moved (ev_ixO (ev_var rfl) (ev_var rfl) getP rfl) (ev_var rfl) (ev_var rfl)) (ev_var rfl) (ev_var rfl) getP rfl ?_
      rw [setP]
      refine w_setL (ec_moved (ev_ixO (ev_var rfl) (ev_var rfl) getP rfl) (ev_var rfl) (ev_var rfl)) (ev_var rfl) (ev_var rfl) getP rfl ?_
      rw [setP]
      apply w_seq
      refine w_forU (ei_revD (ev_ixT (ev_var rfl) ev_int Pu.at0) T.D_RULES_AT_look) ?_
      refine w_setL (ev_st (ev_pop (ev_var rfl) getA) setA) (ev_var rfl) (ev_var rfl) getP rfl ?_
      rw [setP]
      refine w_setL (ev_st (ev_pop (ev_var rfl) getA) setA) (ev_var rfl) (ev_var rfl) getP rfl ?_
      rw [setP]
      refine w_append (ev_var rfl) ⟨_, getA⟩ (ev_tupL (ds := (sh dn rt (Rl.look a p q b)).parts.map Pt.d) (el_ob (ev_var rfl) getP)) getA hz ?_
      rw [setA]
      exact fin _ _ _ _
    | pick a b c =>
      rw [show T' ++ (Rl.pick a b c).inner.map (sh dn rt) = T' ++ [sh dn rt a, sh dn rt b, sh dn rt c] from rfl, three]
      apply w_seq
      refine w_asg (ev_st (ev_is (ev_store (ev_listT (ev_var rfl))) hk1) hk2) ?_
      apply w_seq
      refine w_forU (ei_ixD (ev_ixT (ev_var rfl) ev_int Pu.at0) T.D_REFERENCES_AT_pick) ?_
      apply w_seq
      refine w_forU (ei_revD (ev_ixT (ev_var rfl) ev_int Pu.at0) T.D_RULES_AT_pick) ?_
      refine w_setL (ev_st (ev_pop (ev_var rfl) getA) setA) (ev_var rfl) (ev_var rfl) getP rfl ?_
      rw [setP]
      refine w_setL (ev_st (ev_pop (ev_var rfl) getA) setA) (ev_var rfl) (ev_var rfl) getP rfl ?_
      rw [setP]
      refine w_setL (ev_st (ev_pop (ev_var rfl) getA) setA) (ev_var rfl) (ev_var rfl) getP rfl ?_
      rw [setP]
      refine w_append (ev_var rfl) ⟨_, getA⟩ (ev_tupL (ds := (sh dn rt (Rl.pick a b c)).parts.map Pt.d) (el_ob (ev_var rfl) getP)) getA hz ?_
      rw [setA]
      exact fin _ _ _ _
  · rintro e s ⟨st', x4, x5, x6, g, hG, hl, rfl, rfl⟩
    rw [List.length_reverse, List.length_map, List.length_map] at hG
    rw [List.drop_eq_nil_of_le (by rw [List.length_reverse]; exact Nat.le_refl _)] at hG
    have hG : st' = [sh dn rt r] := hG
    subst hG
    exact w_ret (ev_ixO (x := .dat (sh dn rt r).d) (ev_var rfl) ev_int getA rfl) ⟨_, rfl, .inl ⟨rfl, rfl⟩⟩
/-! all_references -/
abbrev sp_all_references (K : PySem.W.Frag) : Sp := spP (α := Rl) K (fun r => [.dat r.d]) (fun r => r.size ≤ 1000) (fun r => dats ((refsAll r).map Rf.d))
theorem ok_allrefs (T : Top K mg w) : FnOk P w K mg base CX0 3 T.a_all_references T.d_all_references ["rule"] (sp_all_references K) := by
  refine fn_p T.F_all_references sc_all_references (fun _ => rfl) fun cdv A outer s H E hr => ⟨_, B_all_references T (ok_outer T) (by decide) (ok_refs T) (by decide) hr, fun r hp st => ?_⟩
  have hp : r.size ≤ 1000 := hp
  show Ws K _ _ [.dat r.d, .no, .no] _ _
  have z := refsAll_len r
  refine w_ret (r := dats ((refsAll r).map Rf.d)) (ev_is (ev_lc2 (as := r.outer) (enc := fun r => It.dat r.d) (enc1 := fun x => It.dat (Rf.d x)) (ok1 := fun _ => all) refs (fun _ x => Rf.d x) (ei_rl (fc_outer (ev_var rfl) hp)) True.intro ?_ (Pu.wipe_set (by decide)) (Pu.wipe_set (by decide)) (fun d hd => ?_) (fun _ _ => True.intro) fun d hd y hy => ev_var rfl) ?_) endF
  · rw [← List.map_flatMap, List.length_map]
    show (refsAll r).length ≤ _
    omega
  · have q := ei_fr (K := K) (fc_refs (K := K) (r := d) (E := E0) (st := st) (ev_var (i := 1) (es := [.dat r.d, .it (.dat d.d), .no]) rfl))
    rw [List.map_map] at q
    exact q
  · rw [← List.map_flatMap]
    rfl
theorem fc_allrefs {es : Es} {st st1 : List Ob} {ta : TE} {r : Rl} {E : XK} (h : Ev K ta es st st1 (.dat r.d)) (hz : r.size ≤ 1000) : Ev K (tCall (sp_all_references K) [] E (tCons ta tNil)) es st st1 (dats ((refsAll r).map Rf.d)) :=
  ep_call (args := fun r : Rl => [It.dat r.d]) r (ea_cons h ea_nil) hz
/-! Sheet._refuse_off -/
structure Ro where
  B : Bx
  k : Nat
  j : Nat
  a : Cor
abbrev A_off : Ro → List Pv.It := fun x => [.ob x.k, .dat x.a.d]
def R_off (T : Top K mg w) (x : Ro) : Re := if onS x.B x.a.r x.a.c then .ret (.dat .none) else .exc T.c_OffSheet
abbrev sp_off (T : Top K mg w) : Sp := spX K A_off (fun st x => st[x.k]? = some (.ins T.c_Sheet (shFs x.B x.j))) (R_off T)
theorem ok_off (T : Top K mg w) : FnOk P w K mg base (L2.CX P w) 1 T.a_Sheet_refuse_off T.d_Sheet_refuse_off ["self", "place"] (sp_off T) := by
  refine fn_x T.F_Sheet_refuse_off sc_Sheet_refuse_off (fun _ => rfl) fun cdv A outer s H E hr => ⟨_, B_Sheet_refuse_off T hr, fun x st hp => ?_⟩
  obtain ⟨B, k, j, ⟨r, c, t⟩⟩ := x
  have hp : st[k]? = some (.ins T.c_Sheet (shFs B j)) := hp
  show Ws K _ _ [.ob k, .dat (.tuple (.int r :: .int c :: t))] _ _
  refine w_if (b := !onS B r c) (eb_not (eb_and (eb_chain (i := 0) (j := r) (l := B.h) ev_int (ev_ixT (ev_var rfl) ev_int Pu.at0) (ev_fld (ev_var rfl) hp rfl T.cl_Sheet T.n_Sheet_high) rfl rfl) fun _ => eb_chain (i := 0) (j := c) (l := B.w) ev_int (ev_ixT (ev_var rfl) ev_int Pu.at1) (ev_fld (ev_var rfl) hp rfl T.cl_Sheet T.n_Sheet_wide) rfl rfl)) (fun hb => ?_) (fun hb => ?_)
  · have hb : onS B r c = false := by simpa using hb
    refine w_raise ⟨?_, [], (List.append_nil _).symm⟩
    show R_off T ⟨B, k, j, ⟨r, c, t⟩⟩ = _
    unfold R_off
    rw [if_neg (by rw [hb]; exact Bool.false_ne_true)]
  · have hb : onS B r c = true := by simpa using hb
    refine w_next ⟨.dat .none, ?_, endP⟩
    show R_off T ⟨B, k, j, ⟨r, c, t⟩⟩ = _
    unfold R_off
    rw [if_pos hb]
/-! Sheet._refuse_references_off -/
abbrev A_roff : Ro × Rl → List Pv.It := fun x => [.ob x.1.k, .dat x.2.d]
def R_roff (T : Top K mg w) (x : Ro × Rl) : Re := if refsOn x.1.B x.2 then .ret (.dat .none) else .exc T.c_OffSheet
abbrev sp_roff (T : Top K mg w) : Sp := spX K A_roff (fun st x => st[x.1.k]? = some (.ins T.c_Sheet (shFs x.1.B x.1.j)) ∧ x.2.size ≤ 1000) (R_roff T)
theorem ok_roff (T : Top K mg w) : FnOk P w K mg base (L2.CX P w) 4 T.a_Sheet_refuse_references_off T.d_Sheet_refuse_references_off ["self", "rule"] (sp_roff T) := by
  refine fn_x T.F_Sheet_refuse_references_off sc_Sheet_refuse_references_off (fun _ => rfl) fun cdv A outer s H E hr => ⟨_, B_Sheet_refuse_references_off T (ok_off T) (by decide) (ok_allrefs T) (by decide) hr, fun x st hp => ?_⟩
  obtain ⟨⟨B, k, j, a⟩, ru⟩ := x
  obtain ⟨hp, hz⟩ : st[k]? = some (.ins T.c_Sheet (shFs B j)) ∧ ru.size ≤ 1000 := hp
  show Ws K _ _ [.ob k, .dat ru.d, .no] _ _
  have q := ei_fr (K := K) (fc_allrefs (K := K) (r := ru) (E := E0) (st := st) (ev_var (i := 1) (es := [.ob k, .dat ru.d, .no]) rfl) hz)
  rw [List.map_map] at q
  refine w_forN q (fun i e s => s = st ∧ ((refsAll ru).take i).all (fun x => onS B x.r x.c) = true ∧ ∃ y, e = [.ob k, .dat ru.d, y]) ⟨rfl, rfl, _, rfl⟩ (fun _ _ _ _ => True.intro) ?_ ?_
  · rintro i x e s hx ⟨rfl, hall, y, rfl⟩
    rw [List.getElem?_map] at hx
    obtain ⟨p, hp', rfl⟩ := Option.map_eq_some_iff.mp hx
    have a0 : EvA K (tCons (tVar 2) tNil) [.ob k, .dat ru.d, .it (.dat (Rf.d p))] s s [It.dat (cor p).d] := ea_cons (ev_var rfl) ea_nil
    cases hon : onS B p.r p.c with
    | true =>
      refine w_drop (em_x (r := .dat .none) (⟨B, k, j, cor p⟩ : Ro) (ev_var rfl) hp rfl a0 rfl hp ?_) ⟨rfl, ?_, _, rfl⟩
      · unfold R_off
        rw [show onS B (cor p).r (cor p).c = true from hon]
        rfl
      · rw [List.take_add_one, hp', List.all_append, hall]
        show (true && (onS B p.r p.c && true)) = true
        rw [hon]
        rfl
    | false =>
      refine w_dropX (ex_x (C' := T.c_OffSheet) (⟨B, k, j, cor p⟩ : Ro) (ev_var rfl) hp rfl a0 rfl hp ?_) ⟨?_, [], (List.append_nil _).symm⟩
      · unfold R_off
        rw [show onS B (cor p).r (cor p).c = false from hon]
        rfl
      · unfold R_roff refsOn
        rw [if_neg]
        rw [Bool.not_eq_true, List.all_eq_false]
        exact ⟨p, List.mem_of_getElem? hp', by rw [hon]; exact Bool.false_ne_true⟩
  · rintro e s ⟨rfl, hall, y, rfl⟩
    rw [List.length_map, List.take_length] at hall
    refine ⟨.dat .none, ?_, endP⟩
    show R_roff T (⟨B, k, j, a⟩, ru) = _
    unfold R_roff refsOn
    rw [if_pos hall]
/-! Sheet.places -/
abbrev A_places : Ro → List Pv.It := fun x => [.ob x.k]
abbrev sp_places (T : Top K mg w) : Sp := spQ K A_places (fun st x => Sz x.B ∧ ∃ f, st[x.k]? = some (.ins T.c_Sheet (shF2 x.B ++ f))) (fun x => dats (plD (areaP 0 0 (x.B.h - 1) (x.B.w - 1))))
theorem ok_places (T : Top K mg w) : FnOk P w K mg base CX0 2 T.a_Sheet_places T.d_Sheet_places ["self"] (sp_places T) := by
  refine fn_q T.F_Sheet_places sc_Sheet_places (fun _ => rfl) fun cdv A outer s H E hr => ⟨_, B_Sheet_places T (ok_area T) (by decide) hr, fun x st hp => ?_⟩
  obtain ⟨B, k, j, a⟩ := x
  obtain ⟨z, f, hp⟩ : Sz B ∧ ∃ f, st[k]? = some (.ins T.c_Sheet (shF2 B ++ f)) := hp
  show Ws K _ _ [.ob k] _ _
  refine w_ret (fc_area (a := ⟨0, 0, []⟩) (b := ⟨(B.h : Int) - 1, (B.w : Int) - 1, []⟩) (ea_cons (ev_tup (ds := [.int 0, .int 0]) (ed_cons ev_int (ed_cons ev_int ed_nil)) (Nat.le_of_ble_eq_true rfl)) (ea_cons (ev_tup (ds := [.int ((B.h : Int) - 1), .int ((B.w : Int) - 1)]) (ed_cons (ev_I0 (ev_fld (ev_var rfl) hp rfl T.cl_Sheet T.n_Sheet_high) ev_int rfl) (ed_cons (ev_I0 (ev_fld (ev_var rfl) hp rfl T.cl_Sheet T.n_Sheet_wide) ev_int rfl) ed_nil)) (Nat.le_of_ble_eq_true rfl)) ea_nil)) ?_) endF
  exact Nat.le_trans (areaN_le z) (by decide)
/-! Sheet.rule -/
structure Rr where
  B : Bx
  k : Nat
  j : Nat
  m : List (QQ × Pv.It)
  p : QQ
  d : PyData
abbrev A_rule : Rr → List Pv.It := fun x => [.ob x.k, .dat (Pl.pD x.p)]
abbrev sp_rule (T : Top K mg w) : Sp := spX K A_rule (fun st x => Ss T.c_Sheet x.B x.k x.j x.m st ∧ onS x.B x.p.1 x.p.2 = true ∧ x.m.lookup x.p = some (.dat x.d)) (fun x => .ret (.dat x.d))
theorem ok_rule (T : Top K mg w) : FnOk P w K mg base (L2.CX P w) 2 T.a_Sheet_rule T.d_Sheet_rule ["self", "place"] (sp_rule T) := by
  refine fn_x T.F_Sheet_rule sc_Sheet_rule (fun _ => rfl) fun cdv A outer s H E hr => ⟨_, B_Sheet_rule T (ok_off T) (by decide) hr, fun x st hp => ?_⟩
  obtain ⟨B, k, j, m, p, d⟩ := x
  obtain ⟨hs, hon, hl⟩ : Ss T.c_Sheet B k j m st ∧ onS B p.1 p.2 = true ∧ m.lookup p = some (.dat d) := hp
  show Ws K _ _ [.ob k, .dat (Pl.pD p)] _ _
  apply w_seq
  refine w_drop (em_x (r := .dat .none) (⟨B, k, j, ⟨p.1, p.2, []⟩⟩ : Ro) (ev_var rfl) hs.s rfl (ea_cons (ev_var rfl) ea_nil) rfl hs.s ?_) ?_
  · unfold R_off
    rw [hon]
    rfl
  refine w_ret (r := .dat d) (ev_dget (p := p) (ev_fld (ev_var rfl) hs.s rfl T.cl_Sheet T.n_Sheet_rules) (ev_var rfl) hs.d hl) ⟨_, rfl, endP⟩
/-! Sheet.put -/
structure Rp where
  B : Bx
  k : Nat
  j : Nat
  m : List (QQ × Pv.It)
  p : QQ
  r : Rl
abbrev A_put : List Ob × Rp → List Pv.It := fun x => [.ob x.2.k, .dat (Pl.pD x.2.p), .dat x.2.r.d]
/-- what is refused -/
def bars (T : Top K mg w) (B : Bx) (p : QQ) (r : Rl) : Option Addr := if onS B p.1 p.2 = false then some T.c_OffSheet else if 8 < dp r then some T.c_TooDeep else if refsOn B r then none else some T.c_OffSheet
theorem bars_K (T : Top K mg w) (B : Bx) (p : QQ) (r : Rl) : bars T B p r = match barK B p r with | none => none | some true => some T.c_OffSheet | some false => some T.c_TooDeep := by
  unfold bars barK
  by_cases h1 : onS B p.1 p.2 = false
  · rw [if_pos h1, if_pos h1]
  rw [if_neg h1, if_neg h1]
  by_cases h2 : 8 < dp r
  · rw [if_pos h2, if_pos h2]
  rw [if_neg h2, if_neg h2]
  by_cases h3 : refsOn B r = true
  · rw [if_pos h3, if_pos h3]
  · rw [if_neg h3, if_neg h3]
def O_put (T : Top K mg w) (x : List Ob × Rp) : Pv.Out := match bars T x.2.B x.2.p x.2.r with
  | none => .ret (.dat .none) (x.1.set x.2.j (.dic (putM x.2.m x.2.p (.dat x.2.r.d))))
  | some C => .exc C x.1
abbrev sp_put (T : Top K mg w) : Sp := spV (α := List Ob × Rp) K A_put (fun x => Ss T.c_Sheet x.2.B x.2.k x.2.j x.2.m x.1 ∧ okSt x.1 = true ∧ x.2.r.size ≤ 1000 ∧ x.2.m.length < 100000) (fun x => x.1) (O_put T)
theorem okDic_put {n : Nat} {m : List (QQ × Pv.It)} {p : QQ} {d : PyData} (h : okOb n (.dic m) = true) : okOb n (.dic (putM m p (.dat d))) = true := by
  have h : (m.all fun b => okIt n b.2) = true := h
  show ((putM m p (.dat d)).all fun b => okIt n b.2) = true
  rw [List.all_eq_true] at h ⊢
  exact putM_all (Q := fun x => okIt n x = true) h rfl
theorem okSt_set {st : List Ob} {j : Nat} {o : Ob} (h : okSt st = true) (ho : okOb st.length o = true) : okSt (st.set j o) = true := by
  unfold okSt at h ⊢
  rw [List.length_set, List.all_eq_true] at *
  intro x hx
  rcases List.mem_or_eq_of_mem_set hx with hx | rfl
  · exact h x hx
  · exact ho
theorem ok_put (T : Top K mg w) : FnOk P w K mg base (L2.CX P w) 5 T.a_Sheet_put T.d_Sheet_put ["self", "place", "rule"] (sp_put T) := by
  refine fn_vX T.F_Sheet_put sc_Sheet_put (fun _ => rfl) ?_ fun cdv A outer s H E hr => ⟨_, B_Sheet_put T (ok_off T) (by decide) (ok_roff T) (by decide) (ok_deep T) (by decide) hr, fun x hp => ?_⟩
  · rintro ⟨st, x⟩ hp
    show st.length ≤ _
    unfold O_put
    dsimp only
    cases bars T x.B x.p x.r with
    | none => show st.length ≤ (st.set _ _).length; rw [List.length_set]; exact Nat.le_refl _
    | some C => exact Nat.le_refl _
  obtain ⟨st, B, k, j, m, p, ru⟩ := x
  obtain ⟨hs, hok, hz, hm⟩ : Ss T.c_Sheet B k j m st ∧ okSt st = true ∧ ru.size ≤ 1000 ∧ m.length < 100000 := hp
  show Ws K _ _ [.ob k, .dat (Pl.pD p), .dat ru.d] st (fnPost (O_put T (st, ⟨B, k, j, m, p, ru⟩)))
  have exc : ∀ {C : Addr}, bars T B p ru = some C → ExcOk C st (O_put T (st, ⟨B, k, j, m, p, ru⟩)) := fun {C} e => by
    unfold O_put
    dsimp only
    rw [e]
    exact ⟨rfl, [], (List.append_nil _).symm, hok⟩
  have a0 : EvA K (tCons (tVar 1) tNil) [.ob k, .dat (Pl.pD p), .dat ru.d] st st [It.dat (Cor.d ⟨p.1, p.2, []⟩)] := ea_cons (ev_var rfl) ea_nil
  cases hon : onS B p.1 p.2 with
  | false =>
    apply w_seq
    refine w_dropX (ex_x (C' := T.c_OffSheet) (⟨B, k, j, ⟨p.1, p.2, []⟩⟩ : Ro) (ev_var rfl) hs.s rfl a0 rfl hs.s ?_) (exc ?_)
    · unfold R_off
      rw [hon]
      rfl
    · unfold bars
      rw [if_pos hon]
  | true =>
    apply w_seq
    refine w_drop (em_x (r := .dat .none) (⟨B, k, j, ⟨p.1, p.2, []⟩⟩ : Ro) (ev_var rfl) hs.s rfl a0 rfl hs.s ?_) ?_
    · unfold R_off
      rw [hon]
      rfl
    have non : ¬ onS B p.1 p.2 = false := by rw [hon]; exact Bool.noConfusion
    apply w_seq
    refine w_if (eb_test (ev_I0b (b := decide (8 < ((dp ru : Nat) : Int))) (ep_call (args := fun r : Rl => [It.dat r.d]) ru (ea_cons (ev_var rfl) ea_nil) hz) ev_int rfl)) (fun hb => ?_) (fun hb => ?_)
    · have hb := of_decide_eq_true hb
      refine w_raiseJ (C := T.c_TooDeep) (ej_cons (k := 40) ev_str (by decide) (ej_cons (k := 5) (ev_fmt ev_int (by decide)) (by decide) (ej_cons (k := 40) ev_str (by decide) ej_nil))) (by decide) (exc ?_)
      unfold bars
      rw [if_neg non, if_pos (by omega)]
    · have hb := of_decide_eq_false hb
      apply w_next
      apply w_seq
      have nd : ¬ 8 < dp ru := by omega
      cases hro : refsOn B ru with
      | false =>
        refine w_dropX (ex_x (C' := T.c_OffSheet) ((⟨B, k, j, ⟨p.1, p.2, []⟩⟩, ru) : Ro × Rl) (ev_var rfl) hs.s rfl (ea_cons (ev_var rfl) ea_nil) rfl ⟨hs.s, hz⟩ ?_) (exc ?_)
        · unfold R_roff
          rw [hro]
          rfl
        · unfold bars
          rw [if_neg non, if_neg nd, if_neg (by rw [hro]; exact Bool.false_ne_true)]
      | true =>
        refine w_drop (em_x (r := .dat .none) ((⟨B, k, j, ⟨p.1, p.2, []⟩⟩, ru) : Ro × Rl) (ev_var rfl) hs.s rfl (ea_cons (ev_var rfl) ea_nil) rfl ⟨hs.s, hz⟩ ?_) ?_
        · unfold R_roff
          rw [hro]
          rfl
        refine w_dput (p := p) (x := .dat ru.d) (ev_var rfl) (ev_fld (ev_var rfl) hs.s rfl T.cl_Sheet T.n_Sheet_rules) (ev_var rfl) hs.d hm ?_
        show RetOk _ _ (O_put T (st, ⟨B, k, j, m, p, ru⟩))
        unfold O_put bars
        dsimp only
        rw [if_neg non, if_neg nd, if_pos hro]
        refine ⟨[], (List.append_nil _).symm, okSt_set hok (okDic_put ?_), .inl ⟨rfl, rfl⟩⟩
        exact List.all_eq_true.mp hok _ (List.mem_of_getElem? hs.d)
/-! Sheet.__init__ -/
structure Ri where
  st : List Ob
  B : Bx
  k : Nat
abbrev A_init : Ri → List Pv.It := fun x => [.ob x.k, .dat (.int x.B.h), .dat (.int x.B.w)]
def O_init (T : Top K mg w) (x : Ri) : Pv.Out := .ret (.dat .none) ((x.st.set x.k (.ins T.c_Sheet (shFs x.B x.st.length))) ++ [.dic (mNew x.B)])
abbrev sp_init (T : Top K mg w) : Sp := spV (α := Ri) K A_init (fun x => Sz x.B ∧ okSt x.st = true ∧ x.st[x.k]? = some (.ins T.c_Sheet [])) (fun x => x.st) (O_init T)
theorem ok_init (T : Top K mg w) : FnOk P w K mg base (L2.CX P w) 3 T.a_Sheet_init T.d_Sheet_init ["self", "high", "wide"] (sp_init T) := by
  refine fn_vX T.F_Sheet_init sc_Sheet_init (fun _ => rfl) ?_ fun cdv A outer s H E hr => ⟨_, B_Sheet_init T (ok_places T) (by decide) hr, fun x hp => ?_⟩
  · rintro ⟨st, B, k⟩ hp
    show st.length ≤ ((st.set _ _) ++ [_]).length
    rw [List.length_append, List.length_set]
    exact Nat.le_add_right _ _
  obtain ⟨st, B, k⟩ := x
  obtain ⟨z, hok, hk⟩ : Sz B ∧ okSt st = true ∧ st[k]? = some (.ins T.c_Sheet []) := hp
  show Ws K _ _ [.ob k, .dat (.int B.h), .dat (.int B.w), .no] st (fnPost (O_init T ⟨st, B, k⟩))
  have kl := (List.getElem?_eq_some_iff.mp hk).1
  apply w_seq
  refine w_if (b := !(decide ((1 : Int) ≤ B.h) && decide ((B.h : Int) ≤ 12) && (decide ((1 : Int) ≤ B.w) && decide ((B.w : Int) ≤ 12)))) (eb_not (eb_and (eb_chain ev_int (ev_var rfl) ev_int rfl rfl) fun _ => eb_chain ev_int (ev_var rfl) ev_int rfl rfl)) (fun hb => ?_) (fun _ => ?_)
  · exfalso
    have := z.h0
    have := z.w0
    have := z.h1
    have := z.w1
    simp only [Bool.not_eq_true', Bool.and_eq_false_iff, decide_eq_false_iff_not] at hb
    omega
  apply w_next
  apply w_seq
  refine w_fld (k := k) (fs := []) (ev_var rfl) (ev_var rfl) hk T.cl_Sheet T.n_Sheet_high (Nat.le_of_ble_eq_true rfl) ?_
  apply w_seq
  have g1 : (st.set k (.ins T.c_Sheet (putFs "high" (.dat (.int B.h)) [])))[k]? = some (.ins T.c_Sheet (putFs "high" (.dat (.int B.h)) [])) := by rw [List.getElem?_set_self kl]
  refine w_fld (k := k) (fs := putFs "high" (.dat (.int B.h)) []) (ev_var rfl) (ev_var rfl) g1 T.cl_Sheet T.n_Sheet_wide (Nat.le_of_ble_eq_true rfl) ?_
  rw [List.set_set]
  have g2 : (st.set k (.ins T.c_Sheet (shF2 B)))[k]? = some (.ins T.c_Sheet (shF2 B)) := by rw [List.getElem?_set_self kl]
  have hl := areaN_le z
  have lenE : ∀ o : Ob, (st.set k o).length = st.length := fun _ => List.length_set
  refine w_fld (k := k) (fs := shF2 B) (x := .ob st.length) (st1 := st.set k (.ins T.c_Sheet (shF2 B)) ++ [.dic (mNew B)]) (ev_is (ev_store (o := .dic (mNew B)) ?_) (by rw [lenE])) (ev_var rfl) ?_ T.cl_Sheet T.n_Sheet_rules (Nat.le_of_ble_eq_true rfl) ?_
  · refine ev_dc (as := areaP 0 0 ((B.h : Int) - 1) ((B.w : Int) - 1)) (enc := fun p => .dat (Pl.pD p)) (fun p => p) (fun _ => (Rl.num 0).d) (ei_pl (em_q (⟨B, k, 0, ⟨0, 0, []⟩⟩ : Ro) (ev_var rfl) g2 rfl ea_nil rfl ⟨z, [], g2⟩)) True.intro (by omega) (Pu.wipe_set (by decide)) (fun _ _ => ev_var rfl) (fun _ _ => ev_tup (ds := [.str "num", .int 0]) (ed_cons ev_str (ed_cons ev_int ed_nil)) (Nat.le_of_ble_eq_true rfl))
  · rw [List.getElem?_append_left (by rw [lenE]; exact kl)]
    exact g2
  · show RetOk _ _ (O_init T ⟨st, B, k⟩)
    have e : ((st.set k (.ins T.c_Sheet (shF2 B)) ++ [Ob.dic (mNew B)]).set k (.ins T.c_Sheet (putFs "_rules" (.ob st.length) (shF2 B)))) = st.set k (.ins T.c_Sheet (shFs B st.length)) ++ [.dic (mNew B)] := by
      rw [List.set_append_left _ _ (by rw [lenE]; exact kl), List.set_set]
      rfl
    rw [e]
    refine ⟨[], (List.append_nil _).symm, ?_, .inl ⟨rfl, rfl⟩⟩
    have len2 : (st.set k (.ins T.c_Sheet (shFs B st.length)) ++ [Ob.dic (mNew B)]).length = st.length + 1 := by rw [List.length_append, lenE]; rfl
    unfold okSt at hok ⊢
    rw [len2, List.all_append]
    have e1 : ((st.set k (.ins T.c_Sheet (shFs B st.length))).all fun x => okOb (st.length + 1) x) = true := by
      rw [List.all_eq_true] at hok ⊢
      intro x hx
      rcases List.mem_or_eq_of_mem_set hx with hx | rfl
      · exact okOb_le (Nat.le_succ _) (hok x hx)
      · show ((shFs B st.length).all fun b => okIt (st.length + 1) b.2) = true
        unfold shFs
        simp [okIt]
    show ((_ : Bool) && (((mNew B).all fun b => okIt (st.length + 1) b.2) && true)) = true
    rw [e1, Bool.true_and, Bool.and_true, List.all_eq_true]
    exact putAll_all (f := fun p : QQ => p) (g := fun _ => num0) (Q := fun x => okIt (st.length + 1) x = true) fun _ _ => rfl
/-! shifted -/
theorem fc_shifted {es : Es} {st st1 : List Ob} {ts : TA} {r : Rl} {dn rt : Int} {E : XK} (h : EvA K ts es st st1 [.dat r.d, .dat (.int dn), .dat (.int rt)]) (hz : r.size ≤ 1000) : Ev K (tCall (sp_shifted K) [] E ts) es st st1 (.dat (sh dn rt r).d) :=
  ep_call (args := fun a : Rl × Int × Int => [It.dat a.1.d, .dat (.int a.2.1), .dat (.int a.2.2)]) (r, dn, rt) h hz
theorem sh_size (a b : Int) (r : Rl) : (sh a b r).size = r.size := by
  induction r with
  | num n => rfl
  | cell p => rfl
  | sum p q => rfl
  | most p q => rfl
  | add x y h1 h2 => simp only [sh, Rl.size, h1, h2]
  | sub x y h1 h2 => simp only [sh, Rl.size, h1, h2]
  | mul x y h1 h2 => simp only [sh, Rl.size, h1, h2]
  | pick x y z h1 h2 h3 => simp only [sh, Rl.size, h1, h2, h3]
  | look x p q y h1 h2 => simp only [sh, Rl.size, h1, h2]
theorem sh_dp (a b : Int) (r : Rl) : dp (sh a b r) = dp r := by
  induction r with
  | num n => rfl
  | cell p => rfl
  | sum p q => rfl
  | most p q => rfl
  | add x y h1 h2 => simp only [sh, dp, h1, h2]
  | sub x y h1 h2 => simp only [sh, dp, h1, h2]
  | mul x y h1 h2 => simp only [sh, dp, h1, h2]
  | pick x y z h1 h2 h3 => simp only [sh, dp, h1, h2, h3]
  | look x p q y h1 h2 => simp only [sh, dp, h1, h2]
end
end K06

namespace K06
open PySem PySem.Spec L2 Pr Pl Pv Pq
open Evl (Ex rLenS rMax2 rListS)
open PyProof.Rows (envOfC)
/-! own words of the walk -/
local macro_rules | `(tactic| walk_at "side") => `(tactic| first
  | rfl | exact Pu.at_m1 | exact Pu.at_m1' | exact Pu.at_m1'' | exact Pu.at_m2 | exact Pu.at_m2' | exact Pu.at_m3 | exact Pu.at0 | exact Pu.at1 | exact Pu.at2 | exact Pu.at3 | exact Pu.at4 | assumption | decide | omega | exact ⟨by decide, by decide⟩ | exact ⟨by omega, by omega⟩ | exact Or.inr ⟨by omega, by omega⟩ | exact Or.inl ⟨by omega, by omega⟩ | exact Or.inr ⟨by decide, by decide⟩)
local macro_rules | `(tactic| walk_at "ec") => `(tactic| fail)
local macro_rules | `(tactic| walk_at "tab") => `(tactic| assumption)
local macro_rules | `(tactic| walk_at "shape") => `(tactic| first | rfl | assumption)
local macro_rules | `(tactic| walk_at "e") => `(tactic| first
  | exact ev_int | exact ev_str | exact ev_bl | exact ev_non | exact ev_var rfl
  | (apply ev_ixT; (walk_at "e"); (walk_at "e"); (walk_at "side"))
  | (apply ev_ixL; (walk_at "e"); (walk_at "e"); (walk_at "side"))
  | (apply ev_ixO; (walk_at "e"); (walk_at "e"); (rfl); (walk_at "side"))
  | (apply ev_I0; (walk_at "e"); (walk_at "e"); (rfl))
  | (apply ev_I0b; (walk_at "e"); (walk_at "e"); (rfl))
  | (apply ev_I; (walk_at "e"); (walk_at "e"); (rfl); (walk_at "side"))
  | (apply ev_neg; (walk_at "e"); (rfl))
  | (apply ev_eqI; (walk_at "e"); (walk_at "e"))
  | (apply ev_eqS; (walk_at "e"); (walk_at "e"))
  | (apply ev_eqB; (walk_at "e"); (walk_at "e"))
  | (apply ev_neI; (walk_at "e"); (walk_at "e"))
  | (apply ev_neS; (walk_at "e"); (walk_at "e"))
  | (apply ev_eqD; (walk_at "e"); (walk_at "e"); (walk_at "shape"); (walk_at "shape"))
  | (apply ev_neD; (walk_at "e"); (walk_at "e"); (walk_at "shape"); (walk_at "shape"))
  | (apply ev_andV; (walk_at "e"); (intro _; walk_at "e"))
  | (apply ev_orV; (walk_at "e"); (intro _; walk_at "e"))
  | (apply ev_notV; (walk_at "e"))
  | (apply ev_tup; (walk_at "s"); (exact Nat.le_of_ble_eq_true rfl))
  | (apply ev_lst; (walk_at "a"); (exact Nat.le_of_ble_eq_true rfl))
  | (apply ev_slT; (walk_at "e"); (walk_at "o"); (walk_at "o"); (rfl))
  | (apply ev_slL; (walk_at "e"); (walk_at "o"); (walk_at "o"))
  | (apply ev_lenT; (walk_at "e"))
  | (apply ev_len; (walk_at "l"))
  | (apply ev_min2; (walk_at "e"); (walk_at "e"))
  | (apply ev_max2; (walk_at "e"); (walk_at "e"))
  | (apply ev_isi; (walk_at "e"); (first | exact Pu.kb_int_int | exact Pu.kb_int_bool | exact Pu.kb_int_str | exact Pu.kb_int_list | exact Pu.kb_int_tuple | exact Pu.kb_bool_int | exact Pu.kb_bool_bool | exact Pu.kb_bool_str | exact Pu.kb_bool_list | exact Pu.kb_bool_tuple | exact Pu.kb_str_int | exact Pu.kb_str_bool | exact Pu.kb_str_str | exact Pu.kb_str_list | exact Pu.kb_str_tuple | exact Pu.kb_list_int | exact Pu.kb_list_bool | exact Pu.kb_list_str | exact Pu.kb_list_list | exact Pu.kb_list_tuple | exact Pu.kb_tuple_int | exact Pu.kb_tuple_bool | exact Pu.kb_tuple_str | exact Pu.kb_tuple_list | exact Pu.kb_tuple_tuple | exact Pu.kb_NoneType_int | exact Pu.kb_NoneType_bool | exact Pu.kb_NoneType_str | exact Pu.kb_NoneType_list | exact Pu.kb_NoneType_tuple))
  | (apply ev_intB; (walk_at "e"))
  | (apply ev_isN; (walk_at "e"))
  | (apply ev_tupT; (walk_at "e"))
  | (apply ev_tupL; (walk_at "l"))
  | (apply ev_listT; (walk_at "e"))
  | (apply ev_listL; (walk_at "l"))
  | (apply ev_catL; (walk_at "e"); (walk_at "e"); (walk_at "side"))
  | walk_at "ec")
local macro_rules | `(tactic| walk_at "l") => `(tactic| first
  | (apply el_dat; (walk_at "e"))
  | (apply el_ob; (walk_at "e"); (rfl))
  | (apply el_fr; (walk_at "e")))
local macro_rules | `(tactic| walk_at "o") => `(tactic| first
  | exact eo_none
  | (apply eo_some; (walk_at "e")))
local macro_rules | `(tactic| walk_at "a") => `(tactic| first
  | exact ea_nil
  | (apply ea_cons; (walk_at "e"); (walk_at "a")))
local macro_rules | `(tactic| walk_at "s") => `(tactic| first
  | exact ed_nil
  | (apply ed_cons; (walk_at "e"); (walk_at "s")))
local macro_rules | `(tactic| walk_at "b") => `(tactic| first
  | exact eb_yes
  | (apply eb_test; (walk_at "e"))
  | (apply eb_B; (walk_at "e"))
  | (apply eb_truB; (walk_at "e"))
  | (apply eb_truL; (walk_at "l"))
  | (apply eb_truI; (walk_at "e"))
  | (apply eb_not; (walk_at "b"))
  | (apply eb_and; (walk_at "b"); (intro _; walk_at "b"))
  | (apply eb_or; (walk_at "b"); (intro _; walk_at "b")))
section
variable {P : Program} {w : World} {K : PySem.W.Frag} {mg : Str → Option Value} {base : Heap}
/-! ### the script's cells -/
def cell_atM (ns : List Int) (k : Nat) : Int := cell ns k + cell ns k % 251 * 381840
abbrev sp__law_cell_at (K : PySem.W.Frag) : Sp := spP (α := List Int × Nat) K (fun a => [.dat (.list (a.1.map PyData.int)), .dat (.int (a.2 : Nat))]) (fun _ => True) (fun a => .dat (.int (cell_atM a.1 a.2)))
theorem ok_cell_at (T : Top K mg w) : FnOk P w K mg base CX0 1 T.a__law_cell_at T.d__law_cell_at ["_law_script", "_law_k"] (sp__law_cell_at K) := by
  refine fn_p T.F__law_cell_at sc__law_cell_at (fun _ => rfl) fun cdv A outer s H E hr => ⟨_, B__law_cell_at T hr, fun a hp st => ?_⟩
  obtain ⟨ns, n⟩ := a
  show Ws K _ _ [.dat (.list (ns.map PyData.int)), .dat (.int (n : Nat))] _ _
  apply w_seq
  refine w_if (eb_test (ev_I0b (ev_var rfl) (ev_len (el_dat (ev_var rfl))) rfl)) (fun hb => ?_) (fun hb => ?_)
  · rw [List.length_map, List.length_map] at hb
    have h1 := of_decide_eq_true hb
    have h2 : n < ns.length := by omega
    exact w_ret (ev_I0 (k := cell_atM ns n) (ev_ixL (ev_var rfl) (ev_var rfl) (ints_at h2)) (ev_I (ev_I (ev_ixL (ev_var rfl) (ev_var rfl) (ints_at h2)) ev_int rfl (by decide)) ev_int rfl (by first | exact True.intro | exact Or.inr ⟨by omega, by omega⟩ | omega)) rfl) endP
  · rw [List.length_map, List.length_map] at hb
    have h1 := of_decide_eq_false hb
    apply w_next
    refine w_ret ev_int (endPe ?_)
    have e : cell ns n = 0 := by
      unfold cell
      rw [List.getD_eq_getElem?_getD, List.getElem?_eq_none (by omega)]
      rfl
    show PyData.int (cell_atM ns n) = _
    unfold cell_atM
    rw [e]
    rfl
theorem ec_cell_at {es : Es} {st st1 st2 : List Ob} {ta tb : TE} {ns : List Int} {i : Int} {E : XK} (h : Ev K ta es st st1 (.dat (.list (ns.map PyData.int)))) (h2 : Ev K tb es st1 st2 (.dat (.int i))) (h0 : 0 ≤ i) : Ev K (tCall (sp__law_cell_at K) [] E (tCons ta (tCons tb tNil))) es st st2 (.dat (.int (cell_atM ns i.toNat))) :=
  ep_call (args := fun a : List Int × Nat => [It.dat (PyData.list (a.1.map PyData.int)), .dat (PyData.int (a.2 : Nat))]) (ns, i.toNat) (ea_cons h (ea_cons (ev_is h2 (by rw [Int.toNat_of_nonneg h0])) ea_nil)) True.intro

def ref_byM (c : Int) (h : Int) (w : Int) : Rf := (Rf.mk ((c % h)) (((c / 12) % w)) (decide (((c / 144) % 2) = 1)) (decide (((c / 288) % 2) = 1)))
abbrev A_ref_by : (Int × Int × Int) → List Pv.It := fun a => [.dat (.int (a.1)), .dat (.int (a.2.1)), .dat (.int (a.2.2))]
abbrev sp__law_ref_by (K : PySem.W.Frag) : Sp := spP (α := Int × Int × Int) K A_ref_by (fun (⟨c, h, w⟩) => 0 < h ∧ 0 < w) (fun a => .dat (Rf.d (ref_byM (a.1) (a.2.1) (a.2.2))))
theorem ok_ref_by (T : Top K mg w) : FnOk P w K mg base CX0 1 T.a__law_ref_by T.d__law_ref_by ["_law_cell", "_law_high", "_law_wide"] (sp__law_ref_by K) := by
  refine fn_p T.F__law_ref_by sc__law_ref_by (fun _ => rfl) fun cdv A outer s H E hr => ⟨_, B__law_ref_by T hr, fun a hp st => ?_⟩
  obtain ⟨c, h, w⟩ := a
  have hp : 0 < h ∧ 0 < w := hp
  obtain ⟨p0, p1⟩ := hp
  show Ws K _ _ [.dat (.int (c)), .dat (.int (h)), .dat (.int (w))] _ _
  refine w_ret (r := .dat (Rf.d ((Rf.mk ((c % h)) (((c / 12) % w)) (decide (((c / 144) % 2) = 1)) (decide (((c / 288) % 2) = 1)))))) (ev_tup (ds := [.int ((c % h)), .int (((c / 12) % w)), .bool (decide (((c / 144) % 2) = 1)), .bool (decide (((c / 288) % 2) = 1))]) (ed_cons (ev_I (ev_var rfl) (ev_var rfl) rfl (by first | decide | assumption | omega | exact ⟨by decide, by decide⟩ | exact ⟨by omega, by omega⟩ | exact Or.inr ⟨by decide, by decide⟩ | exact Or.inl ⟨by decide, by decide⟩ | exact Or.inr ⟨by omega, by omega⟩ | exact Or.inl ⟨by omega, by omega⟩ | exact ⟨by decide, by decide, by decide⟩ | (refine ⟨?_, ?_, ?_⟩ <;> first | decide | assumption | omega) | (refine ⟨?_, ?_⟩ <;> first | decide | assumption | omega) | exact True.intro)) (ed_cons (ev_I (ev_I (ev_var rfl) ev_int rfl (by first | decide | assumption | omega | exact ⟨by decide, by decide⟩ | exact ⟨by omega, by omega⟩ | exact Or.inr ⟨by decide, by decide⟩ | exact Or.inl ⟨by decide, by decide⟩ | exact Or.inr ⟨by omega, by omega⟩ | exact Or.inl ⟨by omega, by omega⟩ | exact ⟨by decide, by decide, by decide⟩ | (refine ⟨?_, ?_, ?_⟩ <;> first | decide | assumption | omega) | (refine ⟨?_, ?_⟩ <;> first | decide | assumption | omega) | exact True.intro)) (ev_var rfl) rfl (by first | decide | assumption | omega | exact ⟨by decide, by decide⟩ | exact ⟨by omega, by omega⟩ | exact Or.inr ⟨by decide, by decide⟩ | exact Or.inl ⟨by decide, by decide⟩ | exact Or.inr ⟨by omega, by omega⟩ | exact Or.inl ⟨by omega, by omega⟩ | exact ⟨by decide, by decide, by decide⟩ | (refine ⟨?_, ?_, ?_⟩ <;> first | decide | assumption | omega) | (refine ⟨?_, ?_⟩ <;> first | decide | assumption | omega) | exact True.intro)) (ed_cons (ev_eqI (ev_I (ev_I (ev_var rfl) ev_int rfl (by first | decide | assumption | omega | exact ⟨by decide, by decide⟩ | exact ⟨by omega, by omega⟩ | exact Or.inr ⟨by decide, by decide⟩ | exact Or.inl ⟨by decide, by decide⟩ | exact Or.inr ⟨by omega, by omega⟩ | exact Or.inl ⟨by omega, by omega⟩ | exact ⟨by decide, by decide, by decide⟩ | (refine ⟨?_, ?_, ?_⟩ <;> first | decide | assumption | omega) | (refine ⟨?_, ?_⟩ <;> first | decide | assumption | omega) | exact True.intro)) ev_int rfl (by first | decide | assumption | omega | exact ⟨by decide, by decide⟩ | exact ⟨by omega, by omega⟩ | exact Or.inr ⟨by decide, by decide⟩ | exact Or.inl ⟨by decide, by decide⟩ | exact Or.inr ⟨by omega, by omega⟩ | exact Or.inl ⟨by omega, by omega⟩ | exact ⟨by decide, by decide, by decide⟩ | (refine ⟨?_, ?_, ?_⟩ <;> first | decide | assumption | omega) | (refine ⟨?_, ?_⟩ <;> first | decide | assumption | omega) | exact True.intro)) ev_int) (ed_cons (ev_eqI (ev_I (ev_I (ev_var rfl) ev_int rfl (by first | decide | assumption | omega | exact ⟨by decide, by decide⟩ | exact ⟨by omega, by omega⟩ | exact Or.inr ⟨by decide, by decide⟩ | exact Or.inl ⟨by decide, by decide⟩ | exact Or.inr ⟨by omega, by omega⟩ | exact Or.inl ⟨by omega, by omega⟩ | exact ⟨by decide, by decide, by decide⟩ | (refine ⟨?_, ?_, ?_⟩ <;> first | decide | assumption | omega) | (refine ⟨?_, ?_⟩ <;> first | decide | assumption | omega) | exact True.intro)) ev_int rfl (by first | decide | assumption | omega | exact ⟨by decide, by decide⟩ | exact ⟨by omega, by omega⟩ | exact Or.inr ⟨by decide, by decide⟩ | exact Or.inl ⟨by decide, by decide⟩ | exact Or.inr ⟨by omega, by omega⟩ | exact Or.inl ⟨by omega, by omega⟩ | exact ⟨by decide, by decide, by decide⟩ | (refine ⟨?_, ?_, ?_⟩ <;> first | decide | assumption | omega) | (refine ⟨?_, ?_⟩ <;> first | decide | assumption | omega) | exact True.intro)) ev_int) ed_nil)))) (Nat.le_of_ble_eq_true rfl)) (endPe ?_)
  simp only [ref_byM, cond_true, cond_false]
def leaf_byM (c : Int) (h : Int) (w : Int) : Rl := (bif decide ((c % 6) = 0) then (Rl.num ((c / 6) % (10 ^ (Int.toNat 12)))) else (bif decide ((c % 6) = 1) then (Rl.sum (ref_byM ((c / 6)) (h) (w)) (ref_byM ((((c / 6) * 48271) % 1000003)) (h) (w))) else (bif decide ((c % 6) = 2) then (Rl.most (ref_byM ((c / 6)) (h) (w)) (ref_byM ((((c / 6) * 69621) % 1000033)) (h) (w))) else (Rl.cell (ref_byM ((c / 6)) (h) (w))))))
abbrev A_leaf_by : (Int × Int × Int) → List Pv.It := fun a => [.dat (.int (a.1)), .dat (.int (a.2.1)), .dat (.int (a.2.2))]
abbrev sp__law_leaf_by (K : PySem.W.Frag) : Sp := spP (α := Int × Int × Int) K A_leaf_by (fun (⟨c, h, w⟩) => 0 < h ∧ 0 < w) (fun a => .dat (Rl.d (leaf_byM (a.1) (a.2.1) (a.2.2))))
theorem ok_leaf_by (T : Top K mg w) : FnOk P w K mg base CX0 2 T.a__law_leaf_by T.d__law_leaf_by ["_law_cell", "_law_high", "_law_wide"] (sp__law_leaf_by K) := by
  refine fn_p T.F__law_leaf_by sc__law_leaf_by (fun _ => rfl) fun cdv A outer s H E hr => ⟨_, B__law_leaf_by T (ok_ref_by T) (by decide) hr, fun a hp st => ?_⟩
  obtain ⟨c, h, w⟩ := a
  have hp : 0 < h ∧ 0 < w := hp
  obtain ⟨p0, p1⟩ := hp
  show Ws K _ _ [.dat (.int (c)), .dat (.int (h)), .dat (.int (w)), .no, .no] _ _
  apply w_seq
  refine w_asg (x := .dat (.int ((c / 6)))) (ev_I (ev_var rfl) ev_int rfl (by first | decide | assumption | omega | exact ⟨by decide, by decide⟩ | exact ⟨by omega, by omega⟩ | exact Or.inr ⟨by decide, by decide⟩ | exact Or.inl ⟨by decide, by decide⟩ | exact Or.inr ⟨by omega, by omega⟩ | exact Or.inl ⟨by omega, by omega⟩ | exact ⟨by decide, by decide, by decide⟩ | (refine ⟨?_, ?_, ?_⟩ <;> first | decide | assumption | omega) | (refine ⟨?_, ?_⟩ <;> first | decide | assumption | omega) | exact True.intro)) ?_
  apply w_seq
  refine w_asg (x := .dat (Rf.d ((ref_byM ((c / 6)) (h) (w))))) (ep_call (args := A_ref_by) ((c / 6), h, w) (ea_cons (ev_var rfl) (ea_cons (ev_var rfl) (ea_cons (ev_var rfl) ea_nil))) (by first | decide | assumption | omega | exact ⟨by decide, by decide⟩ | exact ⟨by omega, by omega⟩ | exact Or.inr ⟨by decide, by decide⟩ | exact Or.inl ⟨by decide, by decide⟩ | exact Or.inr ⟨by omega, by omega⟩ | exact Or.inl ⟨by omega, by omega⟩ | exact ⟨by decide, by decide, by decide⟩ | (refine ⟨?_, ?_, ?_⟩ <;> first | decide | assumption | omega) | (refine ⟨?_, ?_⟩ <;> first | decide | assumption | omega) | exact True.intro)) ?_
  apply w_seq
  refine w_if (b := decide ((c % 6) = 0)) (eb_test (ev_eqI (ev_I (ev_var rfl) ev_int rfl (by first | decide | assumption | omega | exact ⟨by decide, by decide⟩ | exact ⟨by omega, by omega⟩ | exact Or.inr ⟨by decide, by decide⟩ | exact Or.inl ⟨by decide, by decide⟩ | exact Or.inr ⟨by omega, by omega⟩ | exact Or.inl ⟨by omega, by omega⟩ | exact ⟨by decide, by decide, by decide⟩ | (refine ⟨?_, ?_, ?_⟩ <;> first | decide | assumption | omega) | (refine ⟨?_, ?_⟩ <;> first | decide | assumption | omega) | exact True.intro)) ev_int)) (fun h0 => ?_) (fun h0 => ?_)
  · have qh0 := h0; simp only [Bool.or_eq_true, Bool.and_eq_true, Bool.or_eq_false_iff, Bool.and_eq_false_iff, Bool.not_eq_true', Bool.not_eq_false', decide_eq_true_eq, decide_eq_false_iff_not] at qh0
    refine w_ret (r := .dat (Rl.d ((Rl.num ((c / 6) % (10 ^ (Int.toNat 12))))))) (ev_tup (ds := [.str "num", .int (((c / 6) % (10 ^ (Int.toNat 12))))]) (ed_cons ev_str (ed_cons (ev_I (ev_var rfl) (ev_I (C := CPow) ev_int ev_int rfl (by first | decide | assumption | omega | exact ⟨by decide, by decide⟩ | exact ⟨by omega, by omega⟩ | exact Or.inr ⟨by decide, by decide⟩ | exact Or.inl ⟨by decide, by decide⟩ | exact Or.inr ⟨by omega, by omega⟩ | exact Or.inl ⟨by omega, by omega⟩ | exact ⟨by decide, by decide, by decide⟩ | (refine ⟨?_, ?_, ?_⟩ <;> first | decide | assumption | omega) | (refine ⟨?_, ?_⟩ <;> first | decide | assumption | omega) | exact True.intro)) rfl (by first | decide | assumption | omega | exact ⟨by decide, by decide⟩ | exact ⟨by omega, by omega⟩ | exact Or.inr ⟨by decide, by decide⟩ | exact Or.inl ⟨by decide, by decide⟩ | exact Or.inr ⟨by omega, by omega⟩ | exact Or.inl ⟨by omega, by omega⟩ | exact ⟨by decide, by decide, by decide⟩ | (refine ⟨?_, ?_, ?_⟩ <;> first | decide | assumption | omega) | (refine ⟨?_, ?_⟩ <;> first | decide | assumption | omega) | exact True.intro)) ed_nil)) (Nat.le_of_ble_eq_true rfl)) (endPe ?_)
    simp only [leaf_byM, h0, cond_true, cond_false]
  have qh0 := h0; simp only [Bool.or_eq_true, Bool.and_eq_true, Bool.or_eq_false_iff, Bool.and_eq_false_iff, Bool.not_eq_true', Bool.not_eq_false', decide_eq_true_eq, decide_eq_false_iff_not] at qh0
  apply w_next
  apply w_seq
  refine w_if (b := decide ((c % 6) = 1)) (eb_test (ev_eqI (ev_I (ev_var rfl) ev_int rfl (by first | decide | assumption | omega | exact ⟨by decide, by decide⟩ | exact ⟨by omega, by omega⟩ | exact Or.inr ⟨by decide, by decide⟩ | exact Or.inl ⟨by decide, by decide⟩ | exact Or.inr ⟨by omega, by omega⟩ | exact Or.inl ⟨by omega, by omega⟩ | exact ⟨by decide, by decide, by decide⟩ | (refine ⟨?_, ?_, ?_⟩ <;> first | decide | assumption | omega) | (refine ⟨?_, ?_⟩ <;> first | decide | assumption | omega) | exact True.intro)) ev_int)) (fun h1 => ?_) (fun h1 => ?_)
  · have qh1 := h1; simp only [Bool.or_eq_true, Bool.and_eq_true, Bool.or_eq_false_iff, Bool.and_eq_false_iff, Bool.not_eq_true', Bool.not_eq_false', decide_eq_true_eq, decide_eq_false_iff_not] at qh1
    refine w_ret (r := .dat (Rl.d ((Rl.sum (ref_byM ((c / 6)) (h) (w)) (ref_byM ((((c / 6) * 48271) % 1000003)) (h) (w)))))) (ev_tup (ds := [.str "sum", Rf.d ((ref_byM ((c / 6)) (h) (w))), Rf.d ((ref_byM ((((c / 6) * 48271) % 1000003)) (h) (w)))]) (ed_cons ev_str (ed_cons (ev_var rfl) (ed_cons (ep_call (args := A_ref_by) ((((c / 6) * 48271) % 1000003), h, w) (ea_cons (ev_I (ev_I (ev_var rfl) ev_int rfl (by first | decide | assumption | omega | exact ⟨by decide, by decide⟩ | exact ⟨by omega, by omega⟩ | exact Or.inr ⟨by decide, by decide⟩ | exact Or.inl ⟨by decide, by decide⟩ | exact Or.inr ⟨by omega, by omega⟩ | exact Or.inl ⟨by omega, by omega⟩ | exact ⟨by decide, by decide, by decide⟩ | (refine ⟨?_, ?_, ?_⟩ <;> first | decide | assumption | omega) | (refine ⟨?_, ?_⟩ <;> first | decide | assumption | omega) | exact True.intro)) ev_int rfl (by first | decide | assumption | omega | exact ⟨by decide, by decide⟩ | exact ⟨by omega, by omega⟩ | exact Or.inr ⟨by decide, by decide⟩ | exact Or.inl ⟨by decide, by decide⟩ | exact Or.inr ⟨by omega, by omega⟩ | exact Or.inl ⟨by omega, by omega⟩ | exact ⟨by decide, by decide, by decide⟩ | (refine ⟨?_, ?_, ?_⟩ <;> first | decide | assumption | omega) | (refine ⟨?_, ?_⟩ <;> first | decide | assumption | omega) | exact True.intro)) (ea_cons (ev_var rfl) (ea_cons (ev_var rfl) ea_nil))) (by first | decide | assumption | omega | exact ⟨by decide, by decide⟩ | exact ⟨by omega, by omega⟩ | exact Or.inr ⟨by decide, by decide⟩ | exact Or.inl ⟨by decide, by decide⟩ | exact Or.inr ⟨by omega, by omega⟩ | exact Or.inl ⟨by omega, by omega⟩ | exact ⟨by decide, by decide, by decide⟩ | (refine ⟨?_, ?_, ?_⟩ <;> first | decide | assumption | omega) | (refine ⟨?_, ?_⟩ <;> first | decide | assumption | omega) | exact True.intro)) ed_nil))) (Nat.le_of_ble_eq_true rfl)) (endPe ?_)
    simp only [leaf_byM, h0, h1, cond_true, cond_false]
  have qh1 := h1; simp only [Bool.or_eq_true, Bool.and_eq_true, Bool.or_eq_false_iff, Bool.and_eq_false_iff, Bool.not_eq_true', Bool.not_eq_false', decide_eq_true_eq, decide_eq_false_iff_not] at qh1
  apply w_next
  apply w_seq
  refine w_if (b := decide ((c % 6) = 2)) (eb_test (ev_eqI (ev_I (ev_var rfl) ev_int rfl (by first | decide | assumption | omega | exact ⟨by decide, by decide⟩ | exact ⟨by omega, by omega⟩ | exact Or.inr ⟨by decide, by decide⟩ | exact Or.inl ⟨by decide, by decide⟩ | exact Or.inr ⟨by omega, by omega⟩ | exact Or.inl ⟨by omega, by omega⟩ | exact ⟨by decide, by decide, by decide⟩ | (refine ⟨?_, ?_, ?_⟩ <;> first | decide | assumption | omega) | (refine ⟨?_, ?_⟩ <;> first | decide | assumption | omega) | exact True.intro)) ev_int)) (fun h2 => ?_) (fun h2 => ?_)
  · have qh2 := h2; simp only [Bool.or_eq_true, Bool.and_eq_true, Bool.or_eq_false_iff, Bool.and_eq_false_iff, Bool.not_eq_true', Bool.not_eq_false', decide_eq_true_eq, decide_eq_false_iff_not] at qh2
    refine w_ret (r := .dat (Rl.d ((Rl.most (ref_byM ((c / 6)) (h) (w)) (ref_byM ((((c / 6) * 69621) % 1000033)) (h) (w)))))) (ev_tup (ds := [.str "most", Rf.d ((ref_byM ((c / 6)) (h) (w))), Rf.d ((ref_byM ((((c / 6) * 69621) % 1000033)) (h) (w)))]) (ed_cons ev_str (ed_cons (ev_var rfl) (ed_cons (ep_call (args := A_ref_by) ((((c / 6) * 69621) % 1000033), h, w) (ea_cons (ev_I (ev_I (ev_var rfl) ev_int rfl (by first | decide | assumption | omega | exact ⟨by decide, by decide⟩ | exact ⟨by omega, by omega⟩ | exact Or.inr ⟨by decide, by decide⟩ | exact Or.inl ⟨by decide, by decide⟩ | exact Or.inr ⟨by omega, by omega⟩ | exact Or.inl ⟨by omega, by omega⟩ | exact ⟨by decide, by decide, by decide⟩ | (refine ⟨?_, ?_, ?_⟩ <;> first | decide | assumption | omega) | (refine ⟨?_, ?_⟩ <;> first | decide | assumption | omega) | exact True.intro)) ev_int rfl (by first | decide | assumption | omega | exact ⟨by decide, by decide⟩ | exact ⟨by omega, by omega⟩ | exact Or.inr ⟨by decide, by decide⟩ | exact Or.inl ⟨by decide, by decide⟩ | exact Or.inr ⟨by omega, by omega⟩ | exact Or.inl ⟨by omega, by omega⟩ | exact ⟨by decide, by decide, by decide⟩ | (refine ⟨?_, ?_, ?_⟩ <;> first | decide | assumption | omega) | (refine ⟨?_, ?_⟩ <;> first | decide | assumption | omega) | exact True.intro)) (ea_cons (ev_var rfl) (ea_cons (ev_var rfl) ea_nil))) (by first | decide | assumption | omega | exact ⟨by decide, by decide⟩ | exact ⟨by omega, by omega⟩ | exact Or.inr ⟨by decide, by decide⟩ | exact Or.inl ⟨by decide, by decide⟩ | exact Or.inr ⟨by omega, by omega⟩ | exact Or.inl ⟨by omega, by omega⟩ | exact ⟨by decide, by decide, by decide⟩ | (refine ⟨?_, ?_, ?_⟩ <;> first | decide | assumption | omega) | (refine ⟨?_, ?_⟩ <;> first | decide | assumption | omega) | exact True.intro)) ed_nil))) (Nat.le_of_ble_eq_true rfl)) (endPe ?_)
    simp only [leaf_byM, h0, h1, h2, cond_true, cond_false]
  have qh2 := h2; simp only [Bool.or_eq_true, Bool.and_eq_true, Bool.or_eq_false_iff, Bool.and_eq_false_iff, Bool.not_eq_true', Bool.not_eq_false', decide_eq_true_eq, decide_eq_false_iff_not] at qh2
  apply w_next
  refine w_ret (r := .dat (Rl.d ((Rl.cell (ref_byM ((c / 6)) (h) (w)))))) (ev_tup (ds := [.str "cell", Rf.d ((ref_byM ((c / 6)) (h) (w)))]) (ed_cons ev_str (ed_cons (ev_var rfl) ed_nil)) (Nat.le_of_ble_eq_true rfl)) (endPe ?_)
  simp only [leaf_byM, h0, h1, h2, cond_true, cond_false]
def rule_byM (c : Int) (h : Int) (w : Int) : Rl := (bif decide ((c % 8) < 4) then (leaf_byM ((c / 8)) (h) (w)) else (bif decide ((c % 8) < 6) then (op2m ((c % 8) - 4) (leaf_byM ((c / 8)) (h) (w)) (leaf_byM ((((c / 8) * 48271) % 1000003)) (h) (w))) else (bif decide ((c % 8) = 6) then (Rl.pick (leaf_byM ((((c / 8) * 48271) % 1000003)) (h) (w)) (Rl.sub (leaf_byM ((c / 8)) (h) (w)) (leaf_byM ((((c / 8) * 48271) % 1000003)) (h) (w))) (leaf_byM ((((c / 8) * 69621) % 1000033)) (h) (w))) else (Rl.look (leaf_byM ((c / 8)) (h) (w)) (ref_byM ((c / 8)) (h) (w)) (ref_byM ((((c / 8) * 16807) % 1000037)) (h) (w)) (leaf_byM ((((c / 8) * 48271) % 1000003)) (h) (w))))))
abbrev A_rule_by : (Int × Int × Int) → List Pv.It := fun a => [.dat (.int (a.1)), .dat (.int (a.2.1)), .dat (.int (a.2.2))]
abbrev sp__law_rule_by (K : PySem.W.Frag) : Sp := spP (α := Int × Int × Int) K A_rule_by (fun (⟨c, h, w⟩) => 0 < h ∧ 0 < w) (fun a => .dat (Rl.d (rule_byM (a.1) (a.2.1) (a.2.2))))
theorem ok_rule_by (T : Top K mg w) : FnOk P w K mg base CX0 3 T.a__law_rule_by T.d__law_rule_by ["_law_cell", "_law_high", "_law_wide"] (sp__law_rule_by K) := by
  refine fn_p T.F__law_rule_by sc__law_rule_by (fun _ => rfl) fun cdv A outer s H E hr => ⟨_, B__law_rule_by T (ok_leaf_by T) (by decide) (ok_ref_by T) (by decide) hr, fun a hp st => ?_⟩
  obtain ⟨c, h, w⟩ := a
  have hp : 0 < h ∧ 0 < w := hp
  obtain ⟨p0, p1⟩ := hp
  show Ws K _ _ [.dat (.int (c)), .dat (.int (h)), .dat (.int (w)), .no, .no, .no, .no] _ _
  apply w_seq
  refine w_asg (x := .dat (.int ((c / 8)))) (ev_I (ev_var rfl) ev_int rfl (by first | decide | assumption | omega | exact ⟨by decide, by decide⟩ | exact ⟨by omega, by omega⟩ | exact Or.inr ⟨by decide, by decide⟩ | exact Or.inl ⟨by decide, by decide⟩ | exact Or.inr ⟨by omega, by omega⟩ | exact Or.inl ⟨by omega, by omega⟩ | exact ⟨by decide, by decide, by decide⟩ | (refine ⟨?_, ?_, ?_⟩ <;> first | decide | assumption | omega) | (refine ⟨?_, ?_⟩ <;> first | decide | assumption | omega) | exact True.intro)) ?_
  apply w_seq
  refine w_asg (x := .dat (Rl.d ((leaf_byM ((c / 8)) (h) (w))))) (ep_call (args := A_leaf_by) ((c / 8), h, w) (ea_cons (ev_var rfl) (ea_cons (ev_var rfl) (ea_cons (ev_var rfl) ea_nil))) (by first | decide | assumption | omega | exact ⟨by decide, by decide⟩ | exact ⟨by omega, by omega⟩ | exact Or.inr ⟨by decide, by decide⟩ | exact Or.inl ⟨by decide, by decide⟩ | exact Or.inr ⟨by omega, by omega⟩ | exact Or.inl ⟨by omega, by omega⟩ | exact ⟨by decide, by decide, by decide⟩ | (refine ⟨?_, ?_, ?_⟩ <;> first | decide | assumption | omega) | (refine ⟨?_, ?_⟩ <;> first | decide | assumption | omega) | exact True.intro)) ?_
  apply w_seq
  refine w_asg (x := .dat (Rl.d ((leaf_byM ((((c / 8) * 48271) % 1000003)) (h) (w))))) (ep_call (args := A_leaf_by) ((((c / 8) * 48271) % 1000003), h, w) (ea_cons (ev_I (ev_I (ev_var rfl) ev_int rfl (by first | decide | assumption | omega | exact ⟨by decide, by decide⟩ | exact ⟨by omega, by omega⟩ | exact Or.inr ⟨by decide, by decide⟩ | exact Or.inl ⟨by decide, by decide⟩ | exact Or.inr ⟨by omega, by omega⟩ | exact Or.inl ⟨by omega, by omega⟩ | exact ⟨by decide, by decide, by decide⟩ | (refine ⟨?_, ?_, ?_⟩ <;> first | decide | assumption | omega) | (refine ⟨?_, ?_⟩ <;> first | decide | assumption | omega) | exact True.intro)) ev_int rfl (by first | decide | assumption | omega | exact ⟨by decide, by decide⟩ | exact ⟨by omega, by omega⟩ | exact Or.inr ⟨by decide, by decide⟩ | exact Or.inl ⟨by decide, by decide⟩ | exact Or.inr ⟨by omega, by omega⟩ | exact Or.inl ⟨by omega, by omega⟩ | exact ⟨by decide, by decide, by decide⟩ | (refine ⟨?_, ?_, ?_⟩ <;> first | decide | assumption | omega) | (refine ⟨?_, ?_⟩ <;> first | decide | assumption | omega) | exact True.intro)) (ea_cons (ev_var rfl) (ea_cons (ev_var rfl) ea_nil))) (by first | decide | assumption | omega | exact ⟨by decide, by decide⟩ | exact ⟨by omega, by omega⟩ | exact Or.inr ⟨by decide, by decide⟩ | exact Or.inl ⟨by decide, by decide⟩ | exact Or.inr ⟨by omega, by omega⟩ | exact Or.inl ⟨by omega, by omega⟩ | exact ⟨by decide, by decide, by decide⟩ | (refine ⟨?_, ?_, ?_⟩ <;> first | decide | assumption | omega) | (refine ⟨?_, ?_⟩ <;> first | decide | assumption | omega) | exact True.intro)) ?_
  apply w_seq
  refine w_if (b := decide ((c % 8) < 4)) (eb_test (ev_I0b (ev_I (ev_var rfl) ev_int rfl (by first | decide | assumption | omega | exact ⟨by decide, by decide⟩ | exact ⟨by omega, by omega⟩ | exact Or.inr ⟨by decide, by decide⟩ | exact Or.inl ⟨by decide, by decide⟩ | exact Or.inr ⟨by omega, by omega⟩ | exact Or.inl ⟨by omega, by omega⟩ | exact ⟨by decide, by decide, by decide⟩ | (refine ⟨?_, ?_, ?_⟩ <;> first | decide | assumption | omega) | (refine ⟨?_, ?_⟩ <;> first | decide | assumption | omega) | exact True.intro)) ev_int rfl)) (fun h0 => ?_) (fun h0 => ?_)
  · have qh0 := h0; simp only [Bool.or_eq_true, Bool.and_eq_true, Bool.or_eq_false_iff, Bool.and_eq_false_iff, Bool.not_eq_true', Bool.not_eq_false', decide_eq_true_eq, decide_eq_false_iff_not] at qh0
    refine w_ret (r := .dat (Rl.d ((leaf_byM ((c / 8)) (h) (w))))) (ev_var rfl) (endPe ?_)
    simp only [rule_byM, h0, cond_true, cond_false]
  have qh0 := h0; simp only [Bool.or_eq_true, Bool.and_eq_true, Bool.or_eq_false_iff, Bool.and_eq_false_iff, Bool.not_eq_true', Bool.not_eq_false', decide_eq_true_eq, decide_eq_false_iff_not] at qh0
  apply w_next
  apply w_seq
  refine w_if (b := decide ((c % 8) < 6)) (eb_test (ev_I0b (ev_I (ev_var rfl) ev_int rfl (by first | decide | assumption | omega | exact ⟨by decide, by decide⟩ | exact ⟨by omega, by omega⟩ | exact Or.inr ⟨by decide, by decide⟩ | exact Or.inl ⟨by decide, by decide⟩ | exact Or.inr ⟨by omega, by omega⟩ | exact Or.inl ⟨by omega, by omega⟩ | exact ⟨by decide, by decide, by decide⟩ | (refine ⟨?_, ?_, ?_⟩ <;> first | decide | assumption | omega) | (refine ⟨?_, ?_⟩ <;> first | decide | assumption | omega) | exact True.intro)) ev_int rfl)) (fun h1 => ?_) (fun h1 => ?_)
  · have qh1 := h1; simp only [Bool.or_eq_true, Bool.and_eq_true, Bool.or_eq_false_iff, Bool.and_eq_false_iff, Bool.not_eq_true', Bool.not_eq_false', decide_eq_true_eq, decide_eq_false_iff_not] at qh1
    refine w_ret (r := .dat (Rl.d ((op2m ((c % 8) - 4) (leaf_byM ((c / 8)) (h) (w)) (leaf_byM ((((c / 8) * 48271) % 1000003)) (h) (w)))))) (ev_op2m (ev_I0 (ev_I (ev_var rfl) ev_int rfl (by first | decide | assumption | omega | exact ⟨by decide, by decide⟩ | exact ⟨by omega, by omega⟩ | exact Or.inr ⟨by decide, by decide⟩ | exact Or.inl ⟨by decide, by decide⟩ | exact Or.inr ⟨by omega, by omega⟩ | exact Or.inl ⟨by omega, by omega⟩ | exact ⟨by decide, by decide, by decide⟩ | (refine ⟨?_, ?_, ?_⟩ <;> first | decide | assumption | omega) | (refine ⟨?_, ?_⟩ <;> first | decide | assumption | omega) | exact True.intro)) ev_int rfl) (by first | decide | assumption | omega | exact ⟨by decide, by decide⟩ | exact ⟨by omega, by omega⟩ | exact Or.inr ⟨by decide, by decide⟩ | exact Or.inl ⟨by decide, by decide⟩ | exact Or.inr ⟨by omega, by omega⟩ | exact Or.inl ⟨by omega, by omega⟩ | exact ⟨by decide, by decide, by decide⟩ | (refine ⟨?_, ?_, ?_⟩ <;> first | decide | assumption | omega) | (refine ⟨?_, ?_⟩ <;> first | decide | assumption | omega) | exact True.intro) (ev_var rfl) (ev_var rfl)) (endPe ?_)
    simp only [rule_byM, h0, h1, cond_true, cond_false]
  have qh1 := h1; simp only [Bool.or_eq_true, Bool.and_eq_true, Bool.or_eq_false_iff, Bool.and_eq_false_iff, Bool.not_eq_true', Bool.not_eq_false', decide_eq_true_eq, decide_eq_false_iff_not] at qh1
  apply w_next
  apply w_seq
  refine w_if (b := decide ((c % 8) = 6)) (eb_test (ev_eqI (ev_I (ev_var rfl) ev_int rfl (by first | decide | assumption | omega | exact ⟨by decide, by decide⟩ | exact ⟨by omega, by omega⟩ | exact Or.inr ⟨by decide, by decide⟩ | exact Or.inl ⟨by decide, by decide⟩ | exact Or.inr ⟨by omega, by omega⟩ | exact Or.inl ⟨by omega, by omega⟩ | exact ⟨by decide, by decide, by decide⟩ | (refine ⟨?_, ?_, ?_⟩ <;> first | decide | assumption | omega) | (refine ⟨?_, ?_⟩ <;> first | decide | assumption | omega) | exact True.intro)) ev_int)) (fun h2 => ?_) (fun h2 => ?_)
  · have qh2 := h2; simp only [Bool.or_eq_true, Bool.and_eq_true, Bool.or_eq_false_iff, Bool.and_eq_false_iff, Bool.not_eq_true', Bool.not_eq_false', decide_eq_true_eq, decide_eq_false_iff_not] at qh2
    refine w_ret (r := .dat (Rl.d ((Rl.pick (leaf_byM ((((c / 8) * 48271) % 1000003)) (h) (w)) (Rl.sub (leaf_byM ((c / 8)) (h) (w)) (leaf_byM ((((c / 8) * 48271) % 1000003)) (h) (w))) (leaf_byM ((((c / 8) * 69621) % 1000033)) (h) (w)))))) (ev_tup (ds := [.str "pick", Rl.d ((leaf_byM ((((c / 8) * 48271) % 1000003)) (h) (w))), Rl.d ((Rl.sub (leaf_byM ((c / 8)) (h) (w)) (leaf_byM ((((c / 8) * 48271) % 1000003)) (h) (w)))), Rl.d ((leaf_byM ((((c / 8) * 69621) % 1000033)) (h) (w)))]) (ed_cons ev_str (ed_cons (ev_var rfl) (ed_cons (ev_tup (ds := [.str "sub", Rl.d ((leaf_byM ((c / 8)) (h) (w))), Rl.d ((leaf_byM ((((c / 8) * 48271) % 1000003)) (h) (w)))]) (ed_cons ev_str (ed_cons (ev_var rfl) (ed_cons (ev_var rfl) ed_nil))) (Nat.le_of_ble_eq_true rfl)) (ed_cons (ep_call (args := A_leaf_by) ((((c / 8) * 69621) % 1000033), h, w) (ea_cons (ev_I (ev_I (ev_var rfl) ev_int rfl (by first | decide | assumption | omega | exact ⟨by decide, by decide⟩ | exact ⟨by omega, by omega⟩ | exact Or.inr ⟨by decide, by decide⟩ | exact Or.inl ⟨by decide, by decide⟩ | exact Or.inr ⟨by omega, by omega⟩ | exact Or.inl ⟨by omega, by omega⟩ | exact ⟨by decide, by decide, by decide⟩ | (refine ⟨?_, ?_, ?_⟩ <;> first | decide | assumption | omega) | (refine ⟨?_, ?_⟩ <;> first | decide | assumption | omega) | exact True.intro)) ev_int rfl (by first | decide | assumption | omega | exact ⟨by decide, by decide⟩ | exact ⟨by omega, by omega⟩ | exact Or.inr ⟨by decide, by decide⟩ | exact Or.inl ⟨by decide, by decide⟩ | exact Or.inr ⟨by omega, by omega⟩ | exact Or.inl ⟨by omega, by omega⟩ | exact ⟨by decide, by decide, by decide⟩ | (refine ⟨?_, ?_, ?_⟩ <;> first | decide | assumption | omega) | (refine ⟨?_, ?_⟩ <;> first | decide | assumption | omega) | exact True.intro)) (ea_cons (ev_var rfl) (ea_cons (ev_var rfl) ea_nil))) (by first | decide | assumption | omega | exact ⟨by decide, by decide⟩ | exact ⟨by omega, by omega⟩ | exact Or.inr ⟨by decide, by decide⟩ | exact Or.inl ⟨by decide, by decide⟩ | exact Or.inr ⟨by omega, by omega⟩ | exact Or.inl ⟨by omega, by omega⟩ | exact ⟨by decide, by decide, by decide⟩ | (refine ⟨?_, ?_, ?_⟩ <;> first | decide | assumption | omega) | (refine ⟨?_, ?_⟩ <;> first | decide | assumption | omega) | exact True.intro)) ed_nil)))) (Nat.le_of_ble_eq_true rfl)) (endPe ?_)
    simp only [rule_byM, h0, h1, h2, cond_true, cond_false]
  have qh2 := h2; simp only [Bool.or_eq_true, Bool.and_eq_true, Bool.or_eq_false_iff, Bool.and_eq_false_iff, Bool.not_eq_true', Bool.not_eq_false', decide_eq_true_eq, decide_eq_false_iff_not] at qh2
  apply w_next
  apply w_seq
  refine w_asg (x := .dat (Rf.d ((ref_byM ((((c / 8) * 16807) % 1000037)) (h) (w))))) (ep_call (args := A_ref_by) ((((c / 8) * 16807) % 1000037), h, w) (ea_cons (ev_I (ev_I (ev_var rfl) ev_int rfl (by first | decide | assumption | omega | exact ⟨by decide, by decide⟩ | exact ⟨by omega, by omega⟩ | exact Or.inr ⟨by decide, by decide⟩ | exact Or.inl ⟨by decide, by decide⟩ | exact Or.inr ⟨by omega, by omega⟩ | exact Or.inl ⟨by omega, by omega⟩ | exact ⟨by decide, by decide, by decide⟩ | (refine ⟨?_, ?_, ?_⟩ <;> first | decide | assumption | omega) | (refine ⟨?_, ?_⟩ <;> first | decide | assumption | omega) | exact True.intro)) ev_int rfl (by first | decide | assumption | omega | exact ⟨by decide, by decide⟩ | exact ⟨by omega, by omega⟩ | exact Or.inr ⟨by decide, by decide⟩ | exact Or.inl ⟨by decide, by decide⟩ | exact Or.inr ⟨by omega, by omega⟩ | exact Or.inl ⟨by omega, by omega⟩ | exact ⟨by decide, by decide, by decide⟩ | (refine ⟨?_, ?_, ?_⟩ <;> first | decide | assumption | omega) | (refine ⟨?_, ?_⟩ <;> first | decide | assumption | omega) | exact True.intro)) (ea_cons (ev_var rfl) (ea_cons (ev_var rfl) ea_nil))) (by first | decide | assumption | omega | exact ⟨by decide, by decide⟩ | exact ⟨by omega, by omega⟩ | exact Or.inr ⟨by decide, by decide⟩ | exact Or.inl ⟨by decide, by decide⟩ | exact Or.inr ⟨by omega, by omega⟩ | exact Or.inl ⟨by omega, by omega⟩ | exact ⟨by decide, by decide, by decide⟩ | (refine ⟨?_, ?_, ?_⟩ <;> first | decide | assumption | omega) | (refine ⟨?_, ?_⟩ <;> first | decide | assumption | omega) | exact True.intro)) ?_
  refine w_ret (r := .dat (Rl.d ((Rl.look (leaf_byM ((c / 8)) (h) (w)) (ref_byM ((c / 8)) (h) (w)) (ref_byM ((((c / 8) * 16807) % 1000037)) (h) (w)) (leaf_byM ((((c / 8) * 48271) % 1000003)) (h) (w)))))) (ev_tup (ds := [.str "look", Rl.d ((leaf_byM ((c / 8)) (h) (w))), Rf.d ((ref_byM ((c / 8)) (h) (w))), Rf.d ((ref_byM ((((c / 8) * 16807) % 1000037)) (h) (w))), Rl.d ((leaf_byM ((((c / 8) * 48271) % 1000003)) (h) (w)))]) (ed_cons ev_str (ed_cons (ev_var rfl) (ed_cons (ep_call (args := A_ref_by) ((c / 8), h, w) (ea_cons (ev_var rfl) (ea_cons (ev_var rfl) (ea_cons (ev_var rfl) ea_nil))) (by first | decide | assumption | omega | exact ⟨by decide, by decide⟩ | exact ⟨by omega, by omega⟩ | exact Or.inr ⟨by decide, by decide⟩ | exact Or.inl ⟨by decide, by decide⟩ | exact Or.inr ⟨by omega, by omega⟩ | exact Or.inl ⟨by omega, by omega⟩ | exact ⟨by decide, by decide, by decide⟩ | (refine ⟨?_, ?_, ?_⟩ <;> first | decide | assumption | omega) | (refine ⟨?_, ?_⟩ <;> first | decide | assumption | omega) | exact True.intro)) (ed_cons (ev_var rfl) (ed_cons (ev_var rfl) ed_nil))))) (Nat.le_of_ble_eq_true rfl)) (endPe ?_)
  simp only [rule_byM, h0, h1, h2, cond_true, cond_false]
end
end K06

namespace K06
open PySem PySem.Spec L2 Pr Pl Pv Pq
open Evl (Ex rLenS rMax2 rListS)
open PyProof.Rows (envOfC)
/-! own words of the walk -/
local macro_rules | `(tactic| walk_at "side") => `(tactic| first
  | rfl | exact Pu.at_m1 | exact Pu.at_m1' | exact Pu.at_m1'' | exact Pu.at_m2 | exact Pu.at_m2' | exact Pu.at_m3 | exact Pu.at0 | exact Pu.at1 | exact Pu.at2 | exact Pu.at3 | exact Pu.at4 | assumption | decide | omega | exact ⟨by decide, by decide⟩ | exact ⟨by omega, by omega⟩ | exact Or.inr ⟨by omega, by omega⟩ | exact Or.inl ⟨by omega, by omega⟩ | exact Or.inr ⟨by decide, by decide⟩)
local macro_rules | `(tactic| walk_at "ec") => `(tactic| fail)
local macro_rules | `(tactic| walk_at "tab") => `(tactic| assumption)
local macro_rules | `(tactic| walk_at "shape") => `(tactic| first | rfl | assumption)
local macro_rules | `(tactic| walk_at "e") => `(tactic| first
  | exact ev_int | exact ev_str | exact ev_bl | exact ev_non | exact ev_var rfl
  | (apply ev_ixT; (walk_at "e"); (walk_at "e"); (walk_at "side"))
  | (apply ev_ixL; (walk_at "e"); (walk_at "e"); (walk_at "side"))
  | (apply ev_ixO; (walk_at "e"); (walk_at "e"); (rfl); (walk_at "side"))
  | (apply ev_I0; (walk_at "e"); (walk_at "e"); (rfl))
  | (apply ev_I0b; (walk_at "e"); (walk_at "e"); (rfl))
  | (apply ev_I; (walk_at "e"); (walk_at "e"); (rfl); (walk_at "side"))
  | (apply ev_neg; (walk_at "e"); (rfl))
  | (apply ev_eqI; (walk_at "e"); (walk_at "e"))
  | (apply ev_eqS; (walk_at "e"); (walk_at "e"))
  | (apply ev_eqB; (walk_at "e"); (walk_at "e"))
  | (apply ev_neI; (walk_at "e"); (walk_at "e"))
  | (apply ev_neS; (walk_at "e"); (walk_at "e"))
  | (apply ev_eqD; (walk_at "e"); (walk_at "e"); (walk_at "shape"); (walk_at "shape"))
  | (apply ev_neD; (walk_at "e"); (walk_at "e"); (walk_at "shape"); (walk_at "shape"))
  | (apply ev_andV; (walk_at "e"); (intro _; walk_at "e"))
  | (apply ev_orV; (walk_at "e"); (intro _; walk_at "e"))
  | (apply ev_notV; (walk_at "e"))
  | (apply ev_tup; (walk_at "s"); (exact Nat.le_of_ble_eq_true rfl))
  | (apply ev_lst; (walk_at "a"); (exact Nat.le_of_ble_eq_true rfl))
  | (apply ev_slT; (walk_at "e"); (walk_at "o"); (walk_at "o"); (rfl))
  | (apply ev_slL; (walk_at "e"); (walk_at "o"); (walk_at "o"))
  | (apply ev_lenT; (walk_at "e"))
  | (apply ev_len; (walk_at "l"))
  | (apply ev_min2; (walk_at "e"); (walk_at "e"))
  | (apply ev_max2; (walk_at "e"); (walk_at "e"))
  | (apply ev_isi; (walk_at "e"); (first | exact Pu.kb_int_int | exact Pu.kb_int_bool | exact Pu.kb_int_str | exact Pu.kb_int_list | exact Pu.kb_int_tuple | exact Pu.kb_bool_int | exact Pu.kb_bool_bool | exact Pu.kb_bool_str | exact Pu.kb_bool_list | exact Pu.kb_bool_tuple | exact Pu.kb_str_int | exact Pu.kb_str_bool | exact Pu.kb_str_str | exact Pu.kb_str_list | exact Pu.kb_str_tuple | exact Pu.kb_list_int | exact Pu.kb_list_bool | exact Pu.kb_list_str | exact Pu.kb_list_list | exact Pu.kb_list_tuple | exact Pu.kb_tuple_int | exact Pu.kb_tuple_bool | exact Pu.kb_tuple_str | exact Pu.kb_tuple_list | exact Pu.kb_tuple_tuple | exact Pu.kb_NoneType_int | exact Pu.kb_NoneType_bool | exact Pu.kb_NoneType_str | exact Pu.kb_NoneType_list | exact Pu.kb_NoneType_tuple))
  | (apply ev_intB; (walk_at "e"))
  | (apply ev_isN; (walk_at "e"))
  | (apply ev_tupT; (walk_at "e"))
  | (apply ev_tupL; (walk_at "l"))
  | (apply ev_listT; (walk_at "e"))
  | (apply ev_listL; (walk_at "l"))
  | (apply ev_catL; (walk_at "e"); (walk_at "e"); (walk_at "side"))
  | walk_at "ec")
local macro_rules | `(tactic| walk_at "l") => `(tactic| first
  | (apply el_dat; (walk_at "e"))
  | (apply el_ob; (walk_at "e"); (rfl))
  | (apply el_fr; (walk_at "e")))
local macro_rules | `(tactic| walk_at "o") => `(tactic| first
  | exact eo_none
  | (apply eo_some; (walk_at "e")))
local macro_rules | `(tactic| walk_at "a") => `(tactic| first
  | exact ea_nil
  | (apply ea_cons; (walk_at "e"); (walk_at "a")))
local macro_rules | `(tactic| walk_at "s") => `(tactic| first
  | exact ed_nil
  | (apply ed_cons; (walk_at "e"); (walk_at "s")))
local macro_rules | `(tactic| walk_at "b") => `(tactic| first
  | exact eb_yes
  | (apply eb_test; (walk_at "e"))
  | (apply eb_B; (walk_at "e"))
  | (apply eb_truB; (walk_at "e"))
  | (apply eb_truL; (walk_at "l"))
  | (apply eb_truI; (walk_at "e"))
  | (apply eb_not; (walk_at "b"))
  | (apply eb_and; (walk_at "b"); (intro _; walk_at "b"))
  | (apply eb_or; (walk_at "b"); (intro _; walk_at "b")))
section
variable {P : Program} {w : World} {K : PySem.W.Frag} {mg : Str → Option Value} {base : Heap}
/-! ### helpers: tables, puts, lists that are held or handed on -/
theorem mT_snoc {V : List QQ} {f : QQ → Rl} {p : QQ} (hp : p ∉ V) : putM (mT V f) p (.dat (f p).d) = mT (V ++ [p]) f := by
  rw [putM_new]
  · unfold mT
    rw [List.map_append]
    rfl
  · unfold mT
    rw [List.map_map]
    show p ∉ V.map fun p => p
    rw [List.map_id']
    exact hp
theorem take_snoc {α : Type} {l : List α} {i : Nat} {p : α} (hp : l[i]? = some p) : l.take (i + 1) = l.take i ++ [p] := by
  rw [List.take_add_one, hp]
  rfl
theorem take_new {α : Type} {l : List α} {i : Nat} {p : α} (hl : l.Nodup) (hp : l[i]? = some p) : p ∉ l.take i := fun y => by
  have dn := hl.sublist (List.take_sublist (i + 1) l)
  rw [take_snoc hp, List.nodup_append] at dn
  exact dn.2.2 p y p (List.mem_singleton.mpr rfl) rfl
theorem getE {st : List Ob} {o : Ob} : (st ++ [o])[st.length]? = some o := by simp
theorem setE {st : List Ob} {o o' : Ob} : (st ++ [o]).set st.length o' = st ++ [o'] := by simp
theorem O_put_ok (T : Top K mg w) {st : List Ob} {y : Rp} (h : barK y.B y.p y.r = none) : O_put T (st, y) = .ret (.dat .none) (st.set y.j (.dic (putM y.m y.p (.dat y.r.d)))) := by
  unfold O_put
  rw [bars_K, h]
theorem refsOn_inb {B : Bx} (z : Sz B) {r : Rl} (h : inb B r) : refsOn B r = true := by
  unfold refsOn
  rw [List.all_eq_true]
  exact fun x hx => (onS_iff z).mpr (refsAll_in h x hx)
theorem w_putS (T : Top K mg w) {W : WE} {PP : Post} {es : Es} {st st1 st2 : List Ob} {ta : TE} {ts : TA} {E : XK} {B : Bx} {k j : Nat} {f : QQ → Rl} {p : QQ} {r : Rl} (z : Sz B) (h0 : Ev K ta es st st1 (.ob k)) (hs1 : Ss T.c_Sheet B k j (mT (vB B) f) st1) (h : EvA K ts es st1 st2 [.dat (Pl.pD p), .dat r.d]) (hs : Ss T.c_Sheet B k j (mT (vB B) f) st2) (hok : okSt st2 = true)
    (hp : B.has p.1 p.2) (hin : inb B r) (hz : r.size ≤ 100) (hd : dp r ≤ 8) (hn : PP.nx es (st2.set j (.dic (mT (vB B) (upF f p r))))) : Ws K W (tDrop (tMeth T.c_Sheet "put" (sp_put T) [] E ta ts)) es st PP := by
  have l144 := vB_len z
  refine w_drop (ev_meth (α := List Ob × Rp) (args := A_put) (pre := fun x => Ss T.c_Sheet x.2.B x.2.k x.2.j x.2.m x.1 ∧ okSt x.1 = true ∧ x.2.r.size ≤ 1000 ∧ x.2.m.length < 100000) (stf := fun x => x.1) (out := O_put T) (st2, ⟨B, k, j, mT (vB B) f, p, r⟩) h0 hs1.s rfl h rfl ⟨hs, hok, (show r.size ≤ 1000 by omega), (show (mT (vB B) f).length < 100000 by rw [mT_len]; omega)⟩ (O_put_ok T (barK_none z hp hd (refsOn_inb z hin)))) ?_
  show PP.nx es (st2.set j (.dic (putM (mT (vB B) f) p (.dat r.d))))
  rw [mT_put ((vB_mem z).mpr hp)]
  exact hn

theorem PL_ps {B : Bx} (z : Sz B) : PL B = B.ps := by
  have a0 := z.a0
  have b0 := z.b0
  unfold PL rng Bx.ps
  rw [List.map_map]
  refine List.map_congr_left fun k _ => ?_
  show plI B.w (k : Int) = _
  rw [plI_nat]
  refine Prod.ext ?_ ?_
  · show ((k : Int) / B.w) = ((k / B.w : Nat) : Int) + B.a
    rw [a0, Int.add_zero, Int.natCast_ediv]
  · show ((k : Int) % B.w) = ((k % B.w : Nat) : Int) + B.b
    rw [b0, Int.add_zero, Int.natCast_emod]
/-! ### rules that are drawn -/
theorem leaf_size (c h w : Int) : (leaf_byM c h w).size = 1 := by
  simp only [leaf_byM, cond_eq_ite]
  repeat (first | split | rfl)
theorem leaf_dp (c h w : Int) : dp (leaf_byM c h w) = 1 := by
  simp only [leaf_byM, cond_eq_ite]
  repeat (first | split | rfl)
theorem op2m_size (k : Int) (a b : Rl) : (op2m k a b).size = a.size + b.size + 1 := by
  unfold op2m
  repeat (first | split | rfl)
theorem op2m_dp (k : Int) (a b : Rl) : dp (op2m k a b) = max (dp a) (dp b) + 1 := by
  unfold op2m
  repeat (first | split | rfl)
theorem rule_size (c h w : Int) : (rule_byM c h w).size ≤ 6 := by
  simp only [rule_byM, cond_eq_ite]
  split
  · rw [leaf_size]; omega
  split
  · rw [op2m_size, leaf_size, leaf_size]; omega
  split
  · simp only [Rl.size, leaf_size]; omega
  · simp only [Rl.size, leaf_size]; omega
theorem rule_dp (c h w : Int) : dp (rule_byM c h w) ≤ 3 := by
  simp only [rule_byM, cond_eq_ite]
  split
  · rw [leaf_dp]; omega
  split
  · rw [op2m_dp, leaf_dp, leaf_dp]; omega
  split
  · simp only [dp, leaf_dp]; omega
  · simp only [dp, leaf_dp]; omega
theorem ref_has {B : Bx} (z : Sz B) (c : Int) : B.has (ref_byM c B.h B.w).r (ref_byM c B.h B.w).c := by
  have h0 := z.h0
  have w0 := z.w0
  have a0 := z.a0
  have b0 := z.b0
  have m1 := Int.emod_nonneg c (show (B.h : Int) ≠ 0 by omega)
  have m2 := Int.emod_lt_of_pos c (show (0 : Int) < B.h by omega)
  have m3 := Int.emod_nonneg (c / 12) (show (B.w : Int) ≠ 0 by omega)
  have m4 := Int.emod_lt_of_pos (c / 12) (show (0 : Int) < B.w by omega)
  unfold Bx.has ref_byM
  dsimp only
  omega
theorem leaf_inb {B : Bx} (z : Sz B) (c : Int) : inb B (leaf_byM c B.h B.w) := by
  simp only [leaf_byM, cond_eq_ite]
  split
  · exact True.intro
  split
  · exact ⟨ref_has z _, ref_has z _⟩
  split
  · exact ⟨ref_has z _, ref_has z _⟩
  · exact ref_has z _
theorem op2m_inb {B : Bx} {k : Int} {a b : Rl} (ha : inb B a) (hb : inb B b) : inb B (op2m k a b) := by
  unfold op2m
  split
  · exact ⟨ha, hb⟩
  · exact ⟨ha, hb⟩
theorem rule_inb {B : Bx} (z : Sz B) (c : Int) : inb B (rule_byM c B.h B.w) := by
  simp only [rule_byM, cond_eq_ite]
  split
  · exact leaf_inb z _
  split
  · exact op2m_inb (leaf_inb z _) (leaf_inb z _)
  split
  · exact ⟨leaf_inb z _, ⟨leaf_inb z _, leaf_inb z _⟩, leaf_inb z _⟩
  · exact ⟨leaf_inb z _, ref_has z _, ref_has z _, leaf_inb z _⟩
/-! which references are on the sheet -/
theorem refsOn_of (B : Bx) (r : Rl) : refsOn B r = ((refs r).all (fun x => onS B x.r x.c) && (r.inner.all (refsOn B))) := by
  unfold refsOn refsAll
  rw [Rl.outer_eq, List.flatMap_cons, List.all_append, List.flatMap_assoc]
  congr 1
  rw [List.all_flatMap]
  rw [List.all_reverse]
/-! ### rules that are wrapped -/
def wr1 (c : Int) (k : Nat) (r : Rl) : Rl :=
  if (c / 7 + (k : Int) * k) % 4 = 0 then .add r (.num k) else if (c / 7 + (k : Int) * k) % 4 = 1 then .mul (.num ((k : Int) + 1)) r
  else if (c / 7 + (k : Int) * k) % 4 = 2 then .pick (.num ((k : Int) % 2)) r (.num k) else .sub (.num k) r
def wrM (c : Int) (r : Rl) : Nat → Rl
  | 0 => r
  | n + 1 => wr1 c n (wrM c r n)
theorem wr1_ok {c : Int} {k : Nat} {r : Rl} : (wr1 c k r).size ≤ r.size + 3 ∧ dp (wr1 c k r) ≤ dp r + 1 ∧ ∀ B : Bx, inb B r → inb B (wr1 c k r) := by
  have d1 : 1 ≤ dp r := by cases r <;> simp [dp]
  unfold wr1
  split
  · exact ⟨by simp only [Rl.size]; omega, by simp only [dp]; omega, fun B h => ⟨h, True.intro⟩⟩
  split
  · exact ⟨by simp only [Rl.size]; omega, by simp only [dp]; omega, fun B h => ⟨True.intro, h⟩⟩
  split
  · exact ⟨by simp only [Rl.size]; omega, by simp only [dp]; omega, fun B h => ⟨True.intro, h, True.intro⟩⟩
  · exact ⟨by simp only [Rl.size]; omega, by simp only [dp]; omega, fun B h => ⟨True.intro, h⟩⟩
theorem wrM_ok {c : Int} {r : Rl} : ∀ n : Nat, (wrM c r n).size ≤ r.size + 3 * n ∧ dp (wrM c r n) ≤ dp r + n ∧ ∀ B : Bx, inb B r → inb B (wrM c r n)
  | 0 => ⟨Nat.le_refl _, Nat.le_refl _, fun _ h => h⟩
  | n + 1 => by
    obtain ⟨a, b, d⟩ := wrM_ok (c := c) (r := r) n
    obtain ⟨a2, b2, d2⟩ := wr1_ok (c := c) (k := n) (r := wrM c r n)
    show (wr1 c n _).size ≤ _ ∧ dp (wr1 c n _) ≤ _ ∧ ∀ B, _ → inb B (wr1 c n _)
    exact ⟨by omega, by omega, fun B h => d2 B (d B h)⟩
abbrev A_wrapped : Rl × Int × Nat → List Pv.It := fun a => [.dat a.1.d, .dat (.int a.2.1), .dat (.int (a.2.2 : Nat))]
abbrev sp__law_wrapped (K : PySem.W.Frag) : Sp := spP (α := Rl × Int × Nat) K A_wrapped (fun a => a.2.2 ≤ 5) (fun a => .dat (wrM a.2.1 a.1 a.2.2).d)
theorem ok_wrapped (T : Top K mg w) : FnOk P w K mg base CX0 1 T.a__law_wrapped T.d__law_wrapped ["_law_rule", "_law_cell", "_law_many"] (sp__law_wrapped K) := by
  refine fn_p T.F__law_wrapped sc__law_wrapped (fun _ => rfl) fun cdv A outer s H E hr => ⟨_, B__law_wrapped T hr, fun a hp st => ?_⟩
  obtain ⟨r, c, n⟩ := a
  have hp : n ≤ 5 := hp
  show Ws K _ _ [.dat r.d, .dat (.int c), .dat (.int (n : Nat)), .no, .no] st _
  apply w_seq
  refine w_forR (n := n) (ea_cons (ev_var rfl) ea_nil) (by omega) (fun i e s => s = st ∧ ∃ x y, e = [.dat (wrM c r i).d, .dat (.int c), .dat (.int (n : Nat)), x, y]) ⟨rfl, _, _, rfl⟩ ?_ ?_
  · rintro i e s hi ⟨rfl, x, y, rfl⟩
    have e1 : wrM c r (i + 1) = wr1 c i (wrM c r i) := rfl
    rw [e1]
    generalize wrM c r i = q
    apply w_seq
    refine w_asg (x := .dat (.int ((c / 7 + (i : Int) * i) % 4))) (ev_I (ev_I0 (ev_I (ev_var rfl) ev_int rfl ⟨by decide, by decide⟩) (ev_I (ev_var rfl) (ev_var rfl) rfl (.inl ⟨by omega, by omega⟩)) rfl) ev_int rfl (by decide)) ?_
    refine w_if (eb_test (ev_eqI (ev_var rfl) ev_int)) (fun h => ?_) (fun h => ?_)
    · refine w_asg (x := .dat (wr1 c i q).d) (ev_is (ev_tup (ds := [.str "add", q.d, .tuple [.str "num", .int (i : Nat)]]) (ed_cons ev_str (ed_cons (ev_var rfl) (ed_cons (ev_tup (ds := [.str "num", .int (i : Nat)]) (ed_cons ev_str (ed_cons (ev_var rfl) ed_nil)) (Nat.le_of_ble_eq_true rfl)) ed_nil))) (Nat.le_of_ble_eq_true rfl)) ?_) ⟨rfl, _, _, rfl⟩
      unfold wr1
      rw [if_pos (of_decide_eq_true h)]
      rfl
    have h1 := of_decide_eq_false h
    refine w_if (eb_test (ev_eqI (ev_var rfl) ev_int)) (fun h => ?_) (fun h => ?_)
    · refine w_asg (x := .dat (wr1 c i q).d) (ev_is (ev_tup (ds := [.str "mul", .tuple [.str "num", .int ((i : Int) + 1)], q.d]) (ed_cons ev_str (ed_cons (ev_tup (ds := [.str "num", .int ((i : Int) + 1)]) (ed_cons ev_str (ed_cons (ev_I0 (ev_var rfl) ev_int rfl) ed_nil)) (Nat.le_of_ble_eq_true rfl)) (ed_cons (ev_var rfl) ed_nil))) (Nat.le_of_ble_eq_true rfl)) ?_) ⟨rfl, _, _, rfl⟩
      unfold wr1
      rw [if_neg h1, if_pos (of_decide_eq_true h)]
      rfl
    have h2 := of_decide_eq_false h
    refine w_if (eb_test (ev_eqI (ev_var rfl) ev_int)) (fun h => ?_) (fun h => ?_)
    · refine w_asg (x := .dat (wr1 c i q).d) (ev_is (ev_tup (ds := [.str "pick", .tuple [.str "num", .int ((i : Int) % 2)], q.d, .tuple [.str "num", .int (i : Nat)]]) (ed_cons ev_str (ed_cons (ev_tup (ds := [.str "num", .int ((i : Int) % 2)]) (ed_cons ev_str (ed_cons (ev_I (ev_var rfl) ev_int rfl (by decide)) ed_nil)) (Nat.le_of_ble_eq_true rfl)) (ed_cons (ev_var rfl) (ed_cons (ev_tup (ds := [.str "num", .int (i : Nat)]) (ed_cons ev_str (ed_cons (ev_var rfl) ed_nil)) (Nat.le_of_ble_eq_true rfl)) ed_nil)))) (Nat.le_of_ble_eq_true rfl)) ?_) ⟨rfl, _, _, rfl⟩
      unfold wr1
      rw [if_neg h1, if_neg h2, if_pos (of_decide_eq_true h)]
      rfl
    · refine w_asg (x := .dat (wr1 c i q).d) (ev_is (ev_tup (ds := [.str "sub", .tuple [.str "num", .int (i : Nat)], q.d]) (ed_cons ev_str (ed_cons (ev_tup (ds := [.str "num", .int (i : Nat)]) (ed_cons ev_str (ed_cons (ev_var rfl) ed_nil)) (Nat.le_of_ble_eq_true rfl)) (ed_cons (ev_var rfl) ed_nil))) (Nat.le_of_ble_eq_true rfl)) ?_) ⟨rfl, _, _, rfl⟩
      unfold wr1
      rw [if_neg h1, if_neg h2, if_neg (of_decide_eq_false h)]
      rfl
  rintro e s ⟨rfl, x, y, rfl⟩
  exact w_ret (ev_var rfl) endP
end
end K06

namespace K06
open PySem PySem.Spec L2 Pr Pl Pv Pq
open Evl (Ex rLenS rMax2 rListS)
open PyProof.Rows (envOfC)
/-! own words of the walk -/
local macro_rules | `(tactic| walk_at "side") => `(tactic| first
  | rfl | exact Pu.at_m1 | exact Pu.at_m1' | exact Pu.at_m1'' | exact Pu.at_m2 | exact Pu.at_m2' | exact Pu.at_m3 | exact Pu.at0 | exact Pu.at1 | exact Pu.at2 | exact Pu.at3 | exact Pu.at4 | assumption | decide | omega | exact ⟨by decide, by decide⟩ | exact ⟨by omega, by omega⟩ | exact Or.inr ⟨by omega, by omega⟩ | exact Or.inl ⟨by omega, by omega⟩ | exact Or.inr ⟨by decide, by decide⟩)
local macro_rules | `(tactic| walk_at "ec") => `(tactic| fail)
local macro_rules | `(tactic| walk_at "tab") => `(tactic| assumption)
local macro_rules | `(tactic| walk_at "shape") => `(tactic| first | rfl | assumption)
local macro_rules | `(tactic| walk_at "e") => `(tactic| first
  | exact ev_int | exact ev_str | exact ev_bl | exact ev_non | exact ev_var rfl
  | (apply ev_ixT; (walk_at "e"); (walk_at "e"); (walk_at "side"))
  | (apply ev_ixL; (walk_at "e"); (walk_at "e"); (walk_at "side"))
  | (apply ev_ixO; (walk_at "e"); (walk_at "e"); (rfl); (walk_at "side"))
  | (apply ev_I0; (walk_at "e"); (walk_at "e"); (rfl))
  | (apply ev_I0b; (walk_at "e"); (walk_at "e"); (rfl))
  | (apply ev_I; (walk_at "e"); (walk_at "e"); (rfl); (walk_at "side"))
  | (apply ev_neg; (walk_at "e"); (rfl))
  | (apply ev_eqI; (walk_at "e"); (walk_at "e"))
  | (apply ev_eqS; (walk_at "e"); (walk_at "e"))
  | (apply ev_eqB; (walk_at "e"); (walk_at "e"))
  | (apply ev_neI; (walk_at "e"); (walk_at "e"))
  | (apply ev_neS; (walk_at "e"); (walk_at "e"))
  | (apply ev_eqD; (walk_at "e"); (walk_at "e"); (walk_at "shape"); (walk_at "shape"))
  | (apply ev_neD; (walk_at "e"); (walk_at "e"); (walk_at "shape"); (walk_at "shape"))
  | (apply ev_andV; (walk_at "e"); (intro _; walk_at "e"))
  | (apply ev_orV; (walk_at "e"); (intro _; walk_at "e"))
  | (apply ev_notV; (walk_at "e"))
  | (apply ev_tup; (walk_at "s"); (exact Nat.le_of_ble_eq_true rfl))
  | (apply ev_lst; (walk_at "a"); (exact Nat.le_of_ble_eq_true rfl))
  | (apply ev_slT; (walk_at "e"); (walk_at "o"); (walk_at "o"); (rfl))
  | (apply ev_slL; (walk_at "e"); (walk_at "o"); (walk_at "o"))
  | (apply ev_lenT; (walk_at "e"))
  | (apply ev_len; (walk_at "l"))
  | (apply ev_min2; (walk_at "e"); (walk_at "e"))
  | (apply ev_max2; (walk_at "e"); (walk_at "e"))
  | (apply ev_isi; (walk_at "e"); (first | exact Pu.kb_int_int | exact Pu.kb_int_bool | exact Pu.kb_int_str | exact Pu.kb_int_list | exact Pu.kb_int_tuple | exact Pu.kb_bool_int | exact Pu.kb_bool_bool | exact Pu.kb_bool_str | exact Pu.kb_bool_list | exact Pu.kb_bool_tuple | exact Pu.kb_str_int | exact Pu.kb_str_bool | exact Pu.kb_str_str | exact Pu.kb_str_list | exact Pu.kb_str_tuple | exact Pu.kb_list_int | exact Pu.kb_list_bool | exact Pu.kb_list_str | exact Pu.kb_list_list | exact Pu.kb_list_tuple | exact Pu.kb_tuple_int | exact Pu.kb_tuple_bool | exact Pu.kb_tuple_str | exact Pu.kb_tuple_list | exact Pu.kb_tuple_tuple | exact Pu.kb_NoneType_int | exact Pu.kb_NoneType_bool | exact Pu.kb_NoneType_str | exact Pu.kb_NoneType_list | exact Pu.kb_NoneType_tuple))
  | (apply ev_intB; (walk_at "e"))
  | (apply ev_isN; (walk_at "e"))
  | (apply ev_tupT; (walk_at "e"))
  | (apply ev_tupL; (walk_at "l"))
  | (apply ev_listT; (walk_at "e"))
  | (apply ev_listL; (walk_at "l"))
  | (apply ev_catL; (walk_at "e"); (walk_at "e"); (walk_at "side"))
  | walk_at "ec")
local macro_rules | `(tactic| walk_at "l") => `(tactic| first
  | (apply el_dat; (walk_at "e"))
  | (apply el_ob; (walk_at "e"); (rfl))
  | (apply el_fr; (walk_at "e")))
local macro_rules | `(tactic| walk_at "o") => `(tactic| first
  | exact eo_none
  | (apply eo_some; (walk_at "e")))
local macro_rules | `(tactic| walk_at "a") => `(tactic| first
  | exact ea_nil
  | (apply ea_cons; (walk_at "e"); (walk_at "a")))
local macro_rules | `(tactic| walk_at "s") => `(tactic| first
  | exact ed_nil
  | (apply ed_cons; (walk_at "e"); (walk_at "s")))
local macro_rules | `(tactic| walk_at "b") => `(tactic| first
  | exact eb_yes
  | (apply eb_test; (walk_at "e"))
  | (apply eb_B; (walk_at "e"))
  | (apply eb_truB; (walk_at "e"))
  | (apply eb_truL; (walk_at "l"))
  | (apply eb_truI; (walk_at "e"))
  | (apply eb_not; (walk_at "b"))
  | (apply eb_and; (walk_at "b"); (intro _; walk_at "b"))
  | (apply eb_or; (walk_at "b"); (intro _; walk_at "b")))
section
variable {P : Program} {w : World} {K : PySem.W.Frag} {mg : Str → Option Value} {base : Heap}
/-! ### parts of a rule, as the law goes through them -/
def isRf : Pt → Bool
  | .rf _ => true
  | _ => false
/-- a part, moved -/
def shP (d e : Int) : Pt → Pt
  | .rf x => .rf (mv x d e)
  | .rl r => .rl (sh d e r)
  | p => p
/-- whether the references of a part lie on the sheet -/
def onP (B : Bx) : Pt → Bool
  | .rf x => onS B x.r x.c
  | .rl r => refsOn B r
  | _ => true
theorem kb_TB : kitB "tuple" "bool" = some false := by decide +kernel
abbrev A_part : Pt → List Pv.It := fun p => [.dat p.d]
abbrev sp__law_is_ref (K : PySem.W.Frag) : Sp := spP (α := Pt) K A_part (fun _ => True) (fun p => .dat (.bool (isRf p)))
theorem ok_is_ref (T : Top K mg w) : FnOk P w K mg base CX0 1 T.a__law_is_ref T.d__law_is_ref ["_law_part"] (sp__law_is_ref K) := by
  refine fn_p T.F__law_is_ref sc__law_is_ref (fun _ => rfl) fun cdv A outer s H E hr => ⟨_, B__law_is_ref T hr, fun p hp st => ?_⟩
  show Ws K _ _ [.dat p.d] _ _
  have not4 : ∀ {ds : List PyData}, ((ds.length : Int) = 4 → False) → Ev K (tAndV (tCB (rIsi K) (tCons (tVar 0) (tCons (tC (.ty "tuple")) tNil))) (tAndV (tOp rEq (tCB (rLenS K) (tCons (tVar 0) tNil)) (tC (.int 4))) (tCB (rIsi K) (tCons (tOp (rIxT K) (tVar 0) (tC (.int 2))) (tCons (tC (.ty "bool")) tNil))))) [.dat (.tuple ds)] st st (.dat (.bool false)) := fun {ds} h4 =>
    ev_is (ev_andV (b := false) (ev_isi (d := .tuple ds) (ev_var rfl) Pu.kb_tuple_tuple) fun _ => ev_is (ev_andV (b := false) (ev_eqI (ev_lenT (ds := ds) (ev_var rfl)) ev_int) fun z => (h4 (of_decide_eq_true z)).elim) (by rw [Bool.and_false])) (by rw [Bool.and_false])
  cases p with
  | s x => exact w_ret (ev_andV (b := false) (ev_isi (ev_var rfl) Pu.kb_str_tuple) fun z => nomatch z) (endPe rfl)
  | i x => exact w_ret (ev_andV (b := false) (ev_isi (ev_var rfl) Pu.kb_int_tuple) fun z => nomatch z) (endPe rfl)
  | b x => exact w_ret (ev_andV (b := false) (ev_isi (ev_var rfl) Pu.kb_bool_tuple) fun z => nomatch z) (endPe rfl)
  | rf x => exact w_ret (ev_andV (ev_isi (d := x.d) (ev_var rfl) Pu.kb_tuple_tuple) fun _ => ev_andV (ev_eqI (ev_lenT (ds := [.int x.r, .int x.c, .bool x.rs, .bool x.cs]) (ev_var rfl)) ev_int) fun _ => ev_isi (d := .bool x.rs) (ev_ixT (ds := [.int x.r, .int x.c, .bool x.rs, .bool x.cs]) (ev_var rfl) ev_int Pu.at2) Pu.kb_bool_bool) (endPe rfl)
  | rl r =>
    cases r with
    | num n => exact w_ret (not4 (ds := [.str "num", .int n]) (fun z => by cases z)) (endPe rfl)
    | cell p => exact w_ret (not4 (ds := [.str "cell", p.d]) (fun z => by cases z)) (endPe rfl)
    | sum p q => exact w_ret (not4 (ds := [.str "sum", p.d, q.d]) (fun z => by cases z)) (endPe rfl)
    | most p q => exact w_ret (not4 (ds := [.str "most", p.d, q.d]) (fun z => by cases z)) (endPe rfl)
    | add a b => exact w_ret (not4 (ds := [.str "add", a.d, b.d]) (fun z => by cases z)) (endPe rfl)
    | sub a b => exact w_ret (not4 (ds := [.str "sub", a.d, b.d]) (fun z => by cases z)) (endPe rfl)
    | mul a b => exact w_ret (not4 (ds := [.str "mul", a.d, b.d]) (fun z => by cases z)) (endPe rfl)
    | look a p q b => exact w_ret (not4 (ds := [.str "look", a.d, p.d, q.d, b.d]) (fun z => by cases z)) (endPe rfl)
    | pick a b c =>
      refine w_ret (ev_andV (b := false) (ev_isi (d := .tuple [.str "pick", a.d, b.d, c.d]) (ev_var rfl) Pu.kb_tuple_tuple) fun _ => ev_is (ev_andV (b := false) (ev_eqI (ev_lenT (ds := [.str "pick", a.d, b.d, c.d]) (ev_var rfl)) ev_int) fun _ => ev_isi (d := b.d) (ev_ixT (ds := [.str "pick", a.d, b.d, c.d]) (ev_var rfl) ev_int Pu.at2) ?_) (by rw [Bool.and_false])) (endPe rfl)
      cases b <;> exact kb_TB
theorem fc_is_ref {es : Es} {st st1 : List Ob} {ts : TA} {p : Pt} {E : XK} (h : EvA K ts es st st1 [.dat p.d]) : Ev K (tCall (sp__law_is_ref K) [] E ts) es st st1 (.dat (.bool (isRf p))) :=
  ep_call (args := A_part) p h True.intro
abbrev A_moved : Pt × Int × Int → List Pv.It := fun a => [.dat a.1.d, .dat (.int a.2.1), .dat (.int a.2.2)]
abbrev sp__law_moved (K : PySem.W.Frag) (n : Nat) : Sp := spP (α := Pt × Int × Int) K A_moved (fun a => a.1.dep < n) (fun a => .dat (shP a.2.1 a.2.2 a.1).d)
theorem mv_tup (x : Rf) (dn rt : Int) : (mv x dn rt).d = .tuple [.int (x.r + dn * (if (!x.rs) = true then 1 else 0)), .int (x.c + rt * (if (!x.cs) = true then 1 else 0)), .bool x.rs, .bool x.cs] := by
  obtain ⟨r, c, rs, cs⟩ := x
  cases rs <;> cases cs <;> simp [mv, Rf.d]
theorem ok_lmoved (T : Top K mg w) : ∀ n : Nat, FnOk P w K mg base CX0 (n + 2) T.a__law_moved T.d__law_moved ["_law_part", "_law_down", "_law_right"] (sp__law_moved K n)
  | 0 => (fn_vac fun vs H Q E ⟨a, _, _, h, _⟩ => Nat.not_lt_zero _ h).mono (Nat.zero_le _)
  | n + 1 => by
    have ih := ok_lmoved T n
    refine fn_p T.F__law_moved sc__law_moved (fun _ => rfl) fun cdv A outer s H E hr => ⟨_, B__law_moved T (ok_is_ref T) (Nat.succ_le_succ (Nat.zero_le _)) ih (Nat.le_refl _) hr, fun a hp st => ?_⟩
    obtain ⟨p, dn, rt⟩ := a
    have hp : p.dep < n + 1 := hp
    show Ws K _ _ [.dat p.d, .dat (.int dn), .dat (.int rt), .no] _ _
    apply w_seq
    cases p with
    | s x =>
      refine w_if (b := false) (eb_B (fc_is_ref (p := .s x) (ea_cons (ev_var rfl) ea_nil))) (fun h => nomatch h) fun _ => w_next ?_
      apply w_seq
      refine w_if (b := false) (eb_B (ev_isi (ev_var rfl) Pu.kb_str_tuple)) (fun h => nomatch h) fun _ => w_next ?_
      exact w_ret (ev_var rfl) endP
    | i x =>
      refine w_if (b := false) (eb_B (fc_is_ref (p := .i x) (ea_cons (ev_var rfl) ea_nil))) (fun h => nomatch h) fun _ => w_next ?_
      apply w_seq
      refine w_if (b := false) (eb_B (ev_isi (ev_var rfl) Pu.kb_int_tuple)) (fun h => nomatch h) fun _ => w_next ?_
      exact w_ret (ev_var rfl) endP
    | b x =>
      refine w_if (b := false) (eb_B (fc_is_ref (p := .b x) (ea_cons (ev_var rfl) ea_nil))) (fun h => nomatch h) fun _ => w_next ?_
      apply w_seq
      refine w_if (b := false) (eb_B (ev_isi (ev_var rfl) Pu.kb_bool_tuple)) (fun h => nomatch h) fun _ => w_next ?_
      exact w_ret (ev_var rfl) endP
    | rf x =>
      refine w_if (b := true) (eb_B (fc_is_ref (p := .rf x) (ea_cons (ev_var rfl) ea_nil))) (fun _ => ?_) fun h => nomatch h
      refine w_ret (ev_tup (ds := [.int (x.r + dn * (if (!x.rs) = true then 1 else 0)), .int (x.c + rt * (if (!x.cs) = true then 1 else 0)), .bool x.rs, .bool x.cs]) (ed_cons (ev_I0 (ev_ixT (ds := [.int x.r, .int x.c, .bool x.rs, .bool x.cs]) (ev_var rfl) ev_int Pu.at0) (ev_I (ev_var rfl) (ev_intB (ev_notV (ev_ixT (ds := [.int x.r, .int x.c, .bool x.rs, .bool x.cs]) (ev_var rfl) ev_int Pu.at2))) rfl ?_) rfl) (ed_cons (ev_I0 (ev_ixT (ds := [.int x.r, .int x.c, .bool x.rs, .bool x.cs]) (ev_var rfl) ev_int Pu.at1) (ev_I (ev_var rfl) (ev_intB (ev_notV (ev_ixT (ds := [.int x.r, .int x.c, .bool x.rs, .bool x.cs]) (ev_var rfl) ev_int Pu.at3))) rfl ?_) rfl) (ed_cons (ev_ixT (ds := [.int x.r, .int x.c, .bool x.rs, .bool x.cs]) (ev_var rfl) ev_int Pu.at2) (ed_cons (ev_ixT (ds := [.int x.r, .int x.c, .bool x.rs, .bool x.cs]) (ev_var rfl) ev_int Pu.at3) ed_nil)))) (Nat.le_of_ble_eq_true rfl)) (endPe (mv_tup x dn rt))
      · split <;> first | exact .inr ⟨by decide, by decide⟩ | omega
      · split <;> first | exact .inr ⟨by decide, by decide⟩ | omega
    | rl r =>
      have hp : r.dep < n + 1 := hp
      have td := tail_dep r
      have e0 : (shP dn rt (.rl r)).d = .tuple (.str (form r) :: ((tailP r).map (shP dn rt)).map Pt.d) := by cases r <;> rfl
      refine w_if (b := false) (eb_B (fc_is_ref (p := .rl r) (ea_cons (ev_var rfl) ea_nil))) (fun h => nomatch h) fun _ => w_next ?_
      show Ws K _ _ [.dat r.d, .dat (.int dn), .dat (.int rt), .no] _ _
      rw [d_head r]
      apply w_seq
      refine w_if (b := true) (eb_B (ev_isi (ev_var rfl) Pu.kb_tuple_tuple)) (fun _ => ?_) fun h => nomatch h
      refine w_ret (ev_tupL (ds := .str (form r) :: ((tailP r).map (shP dn rt)).map Pt.d) (el_fr (ev_is (ev_lm (α := Pt) (as := .s (form r) :: tailP r) (enc := fun p => .dat p.d) (fun p => (shP dn rt p).d) (ei_is (ei_tup (ev_var rfl)) ?_) True.intro ?_ (Pu.wipe_set (by decide)) ?_) ?_))) (endPe e0)
      · simp [Pt.d]
      · have := tail_len r
        simp
        omega
      · intro p hm
        refine ep_call (args := A_moved) (p, dn, rt) (ea_cons (ev_var rfl) (ea_cons (ev_var rfl) (ea_cons (ev_var rfl) ea_nil))) ?_
        show p.dep < n
        rcases List.mem_cons.mp hm with rfl | hm
        · have := r.dep_pos
          show 0 < n
          have : 0 < r.dep := this
          cases n with
          | zero => omega
          | succ n => omega
        · have := td p hm
          have : p.dep < r.dep := this
          omega
      · simp [shP, Pt.d]
theorem fc_lmoved {n : Nat} {es : Es} {st st1 : List Ob} {ts : TA} {r : Rl} {dn rt : Int} {E : XK} (h : EvA K ts es st st1 [.dat r.d, .dat (.int dn), .dat (.int rt)]) (hn : r.dep < n) : Ev K (tCall (sp__law_moved K n) [] E ts) es st st1 (.dat (sh dn rt r).d) :=
  ep_call (args := A_moved) (.rl r, dn, rt) h hn
abbrev A_lies : Pt × Bx → List Pv.It := fun a => [.dat a.1.d, .dat (.int a.2.h), .dat (.int a.2.w)]
abbrev sp__law_lies (K : PySem.W.Frag) (n : Nat) : Sp := spP (α := Pt × Bx) K A_lies (fun a => a.1.dep < n) (fun a => .dat (.bool (onP a.2 a.1)))
theorem onS_eq (B : Bx) (r c : Int) : onS B r c = (decide (0 ≤ r) && (decide (r < B.h) && (decide (0 ≤ c) && decide (c < B.w)))) := by
  unfold onS
  simp [Bool.and_assoc]
theorem refsOn_tail (B : Bx) (r : Rl) : refsOn B r = (tailP r).all (onP B) := by
  rw [refsOn_of]
  cases r with
  | look a p q b =>
    simp [refs, Rl.inner, tailP, onP]
    cases refsOn B a <;> cases refsOn B b <;> cases onS B p.r p.c <;> cases onS B q.r q.c <;> rfl
  | _ => simp [refs, Rl.inner, tailP, onP]
theorem ok_lies (T : Top K mg w) : ∀ n : Nat, FnOk P w K mg base CX0 (n + 2) T.a__law_lies T.d__law_lies ["_law_part", "_law_high", "_law_wide"] (sp__law_lies K n)
  | 0 => (fn_vac fun vs H Q E ⟨a, _, _, h, _⟩ => Nat.not_lt_zero _ h).mono (Nat.zero_le _)
  | n + 1 => by
    have ih := ok_lies T n
    refine fn_p T.F__law_lies sc__law_lies (fun _ => rfl) fun cdv A outer s H E hr => ⟨_, B__law_lies T (ok_is_ref T) (Nat.succ_le_succ (Nat.zero_le _)) ih (Nat.le_refl _) hr, fun a hp st => ?_⟩
    obtain ⟨p, B⟩ := a
    have hp : p.dep < n + 1 := hp
    show Ws K _ _ [.dat p.d, .dat (.int B.h), .dat (.int B.w), .no] _ _
    apply w_seq
    cases p with
    | s x =>
      refine w_if (b := false) (eb_B (fc_is_ref (p := .s x) (ea_cons (ev_var rfl) ea_nil))) (fun h => nomatch h) fun _ => w_next ?_
      apply w_seq
      refine w_if (b := false) (eb_B (ev_isi (ev_var rfl) Pu.kb_str_tuple)) (fun h => nomatch h) fun _ => w_next ?_
      exact w_ret ev_bl endP
    | i x =>
      refine w_if (b := false) (eb_B (fc_is_ref (p := .i x) (ea_cons (ev_var rfl) ea_nil))) (fun h => nomatch h) fun _ => w_next ?_
      apply w_seq
      refine w_if (b := false) (eb_B (ev_isi (ev_var rfl) Pu.kb_int_tuple)) (fun h => nomatch h) fun _ => w_next ?_
      exact w_ret ev_bl endP
    | b x =>
      refine w_if (b := false) (eb_B (fc_is_ref (p := .b x) (ea_cons (ev_var rfl) ea_nil))) (fun h => nomatch h) fun _ => w_next ?_
      apply w_seq
      refine w_if (b := false) (eb_B (ev_isi (ev_var rfl) Pu.kb_bool_tuple)) (fun h => nomatch h) fun _ => w_next ?_
      exact w_ret ev_bl endP
    | rf x =>
      refine w_if (b := true) (eb_B (fc_is_ref (p := .rf x) (ea_cons (ev_var rfl) ea_nil))) (fun _ => ?_) fun h => nomatch h
      refine w_ret (ev_andV (ev_I0b (b := decide (0 ≤ x.r)) ev_int (ev_ixT (ds := [.int x.r, .int x.c, .bool x.rs, .bool x.cs]) (ev_var rfl) ev_int Pu.at0) rfl) fun _ => ev_andV (ev_I0b (b := decide (x.r < B.h)) (ev_ixT (ds := [.int x.r, .int x.c, .bool x.rs, .bool x.cs]) (ev_var rfl) ev_int Pu.at0) (ev_var rfl) rfl) fun _ => ev_andV (ev_I0b (b := decide (0 ≤ x.c)) ev_int (ev_ixT (ds := [.int x.r, .int x.c, .bool x.rs, .bool x.cs]) (ev_var rfl) ev_int Pu.at1) rfl) fun _ => ev_I0b (b := decide (x.c < B.w)) (ev_ixT (ds := [.int x.r, .int x.c, .bool x.rs, .bool x.cs]) (ev_var rfl) ev_int Pu.at1) (ev_var rfl) rfl) (endPe (by rw [← onS_eq]; rfl))
    | rl r =>
      have hp : r.dep < n + 1 := hp
      have td := tail_dep r
      have e0 : onP B (.rl r) = (Pt.s (form r) :: tailP r).all (onP B) := refsOn_tail B r
      refine w_if (b := false) (eb_B (fc_is_ref (p := .rl r) (ea_cons (ev_var rfl) ea_nil))) (fun h => nomatch h) fun _ => w_next ?_
      show Ws K _ _ [.dat r.d, .dat (.int B.h), .dat (.int B.w), .no] _ _
      rw [d_head r]
      apply w_seq
      refine w_if (b := true) (eb_B (ev_isi (ev_var rfl) Pu.kb_tuple_tuple)) (fun _ => ?_) fun h => nomatch h
      let ps : List Pt := .s (form r) :: tailP r
      have dp : ∀ p ∈ ps, p.dep < n := fun p hm => by
        rcases List.mem_cons.mp hm with rfl | hm
        · have := r.dep_pos
          show 0 < n
          have : 0 < r.dep := this
          cases n with
          | zero => omega
          | succ n => omega
        · have := td p hm
          have : p.dep < r.dep := this
          omega
      refine w_forN (xs := ps.map fun p => .dat p.d) (ei_is (ei_tup (ev_var rfl)) ?_) (fun i e s => s = st ∧ (ps.take i).all (onP B) = true ∧ ∃ y, e = [.dat (.tuple (.str (form r) :: (tailP r).map Pt.d)), .dat (.int B.h), .dat (.int B.w), y]) ⟨rfl, rfl, _, rfl⟩ (fun _ _ _ _ => True.intro) ?_ ?_
      · show _ = (Pt.s (form r) :: tailP r).map _
        simp [Pt.d]
      · rintro i x e s hx ⟨rfl, hall, y, rfl⟩
        rw [List.getElem?_map] at hx
        obtain ⟨p, hp', rfl⟩ := Option.map_eq_some_iff.mp hx
        have hm := List.mem_of_getElem? hp'
        refine w_if (eb_not (eb_B (ep_call (args := A_lies) (p, B) (ea_cons (ev_var rfl) (ea_cons (ev_var rfl) (ea_cons (ev_var rfl) ea_nil))) (dp p hm)))) (fun hb => ?_) (fun hb => ?_)
        · have hb : (!onP B p) = true := hb
          rw [Bool.not_eq_true'] at hb
          refine w_ret ev_bl (endPe ?_)
          show PyData.bool (onP B (.rl r)) = .bool false
          rw [e0]
          congr 1
          rw [List.all_eq_false]
          exact ⟨p, hm, by rw [hb]; exact Bool.false_ne_true⟩
        · have hb : (!onP B p) = false := hb
          rw [Bool.not_eq_false'] at hb
          refine w_next ⟨rfl, ?_, _, rfl⟩
          rw [List.take_add_one, hp', List.all_append, hall]
          show (true && (onP B p && true)) = true
          rw [hb]
          rfl
      · rintro e s ⟨rfl, hall, y, rfl⟩
        rw [List.length_map, List.take_length] at hall
        refine w_ret ev_bl (endPe ?_)
        show PyData.bool (onP B (.rl r)) = .bool true
        rw [e0]
        exact congrArg PyData.bool hall
theorem fc_lies {n : Nat} {es : Es} {st st1 : List Ob} {ts : TA} {r : Rl} {B : Bx} {E : XK} (h : EvA K ts es st st1 [.dat r.d, .dat (.int B.h), .dat (.int B.w)]) (hn : r.dep < n) : Ev K (tCall (sp__law_lies K n) [] E ts) es st st1 (.dat (.bool (refsOn B r))) :=
  ep_call (args := A_lies) (.rl r, B) h hn
end
end K06

namespace K06
open PySem PySem.Spec L2 Pr Pl Pv Pq
open Evl (Ex rLenS rMax2 rListS)
open PyProof.Rows (envOfC)
/-! own words of the walk -/
local macro_rules | `(tactic| walk_at "side") => `(tactic| first
  | rfl | exact Pu.at_m1 | exact Pu.at_m1' | exact Pu.at_m1'' | exact Pu.at_m2 | exact Pu.at_m2' | exact Pu.at_m3 | exact Pu.at0 | exact Pu.at1 | exact Pu.at2 | exact Pu.at3 | exact Pu.at4 | assumption | decide | omega | exact ⟨by decide, by decide⟩ | exact ⟨by omega, by omega⟩ | exact Or.inr ⟨by omega, by omega⟩ | exact Or.inl ⟨by omega, by omega⟩ | exact Or.inr ⟨by decide, by decide⟩)
local macro_rules | `(tactic| walk_at "ec") => `(tactic| fail)
local macro_rules | `(tactic| walk_at "tab") => `(tactic| assumption)
local macro_rules | `(tactic| walk_at "shape") => `(tactic| first | rfl | assumption)
local macro_rules | `(tactic| walk_at "e") => `(tactic| first
  | exact ev_int | exact ev_str | exact ev_bl | exact ev_non | exact ev_var rfl
  | (apply ev_ixT; (walk_at "e"); (walk_at "e"); (walk_at "side"))
  | (apply ev_ixL; (walk_at "e"); (walk_at "e"); (walk_at "side"))
  | (apply ev_ixO; (walk_at "e"); (walk_at "e"); (rfl); (walk_at "side"))
  | (apply ev_I0; (walk_at "e"); (walk_at "e"); (rfl))
  | (apply ev_I0b; (walk_at "e"); (walk_at "e"); (rfl))
  | (apply ev_I; (walk_at "e"); (walk_at "e"); (rfl); (walk_at "side"))
  | (apply ev_neg; (walk_at "e"); (rfl))
  | (apply ev_eqI; (walk_at "e"); (walk_at "e"))
  | (apply ev_eqS; (walk_at "e"); (walk_at "e"))
  | (apply ev_eqB; (walk_at "e"); (walk_at "e"))
  | (apply ev_neI; (walk_at "e"); (walk_at "e"))
  | (apply ev_neS; (walk_at "e"); (walk_at "e"))
  | (apply ev_eqD; (walk_at "e"); (walk_at "e"); (walk_at "shape"); (walk_at "shape"))
  | (apply ev_neD; (walk_at "e"); (walk_at "e"); (walk_at "shape"); (walk_at "shape"))
  | (apply ev_andV; (walk_at "e"); (intro _; walk_at "e"))
  | (apply ev_orV; (walk_at "e"); (intro _; walk_at "e"))
  | (apply ev_notV; (walk_at "e"))
  | (apply ev_tup; (walk_at "s"); (exact Nat.le_of_ble_eq_true rfl))
  | (apply ev_lst; (walk_at "a"); (exact Nat.le_of_ble_eq_true rfl))
  | (apply ev_slT; (walk_at "e"); (walk_at "o"); (walk_at "o"); (rfl))
  | (apply ev_slL; (walk_at "e"); (walk_at "o"); (walk_at "o"))
  | (apply ev_lenT; (walk_at "e"))
  | (apply ev_len; (walk_at "l"))
  | (apply ev_min2; (walk_at "e"); (walk_at "e"))
  | (apply ev_max2; (walk_at "e"); (walk_at "e"))
  | (apply ev_isi; (walk_at "e"); (first | exact Pu.kb_int_int | exact Pu.kb_int_bool | exact Pu.kb_int_str | exact Pu.kb_int_list | exact Pu.kb_int_tuple | exact Pu.kb_bool_int | exact Pu.kb_bool_bool | exact Pu.kb_bool_str | exact Pu.kb_bool_list | exact Pu.kb_bool_tuple | exact Pu.kb_str_int | exact Pu.kb_str_bool | exact Pu.kb_str_str | exact Pu.kb_str_list | exact Pu.kb_str_tuple | exact Pu.kb_list_int | exact Pu.kb_list_bool | exact Pu.kb_list_str | exact Pu.kb_list_list | exact Pu.kb_list_tuple | exact Pu.kb_tuple_int | exact Pu.kb_tuple_bool | exact Pu.kb_tuple_str | exact Pu.kb_tuple_list | exact Pu.kb_tuple_tuple | exact Pu.kb_NoneType_int | exact Pu.kb_NoneType_bool | exact Pu.kb_NoneType_str | exact Pu.kb_NoneType_list | exact Pu.kb_NoneType_tuple))
  | (apply ev_intB; (walk_at "e"))
  | (apply ev_isN; (walk_at "e"))
  | (apply ev_tupT; (walk_at "e"))
  | (apply ev_tupL; (walk_at "l"))
  | (apply ev_listT; (walk_at "e"))
  | (apply ev_listL; (walk_at "l"))
  | (apply ev_catL; (walk_at "e"); (walk_at "e"); (walk_at "side"))
  | walk_at "ec")
local macro_rules | `(tactic| walk_at "l") => `(tactic| first
  | (apply el_dat; (walk_at "e"))
  | (apply el_ob; (walk_at "e"); (rfl))
  | (apply el_fr; (walk_at "e")))
local macro_rules | `(tactic| walk_at "o") => `(tactic| first
  | exact eo_none
  | (apply eo_some; (walk_at "e")))
local macro_rules | `(tactic| walk_at "a") => `(tactic| first
  | exact ea_nil
  | (apply ea_cons; (walk_at "e"); (walk_at "a")))
local macro_rules | `(tactic| walk_at "s") => `(tactic| first
  | exact ed_nil
  | (apply ed_cons; (walk_at "e"); (walk_at "s")))
local macro_rules | `(tactic| walk_at "b") => `(tactic| first
  | exact eb_yes
  | (apply eb_test; (walk_at "e"))
  | (apply eb_B; (walk_at "e"))
  | (apply eb_truB; (walk_at "e"))
  | (apply eb_truL; (walk_at "l"))
  | (apply eb_truI; (walk_at "e"))
  | (apply eb_not; (walk_at "b"))
  | (apply eb_and; (walk_at "b"); (intro _; walk_at "b"))
  | (apply eb_or; (walk_at "b"); (intro _; walk_at "b")))
section
variable {P : Program} {w : World} {K : PySem.W.Frag} {mg : Str → Option Value} {base : Heap}
/-! ### rules that are the same -/
def okP : Pt → Prop
  | .s x => SeqAt.shaped (.str x) = true
  | _ => True
theorem parts_ok (r : Rl) : ∀ q ∈ r.parts, okP q := by
  have S : ∀ x : Str, x ∈ (["num", "cell", "add", "sub", "mul", "pick", "sum", "most", "look"] : List Str) → SeqAt.shaped (.str x) = true := by
    decide +kernel
  cases r <;> simp [Rl.parts, okP] <;> exact S _ (by decide)
abbrev A_same : Pt → List Pv.It := fun p => [.dat p.d, .dat p.d]
abbrev sp__law_same (K : PySem.W.Frag) (n : Nat) : Sp := spP (α := Pt) K A_same (fun p => p.dep < n ∧ okP p) (fun _ => .dat (.bool true))
theorem ok_same (T : Top K mg w) : ∀ n : Nat, FnOk P w K mg base CX0 (n + 1) T.a__law_same T.d__law_same ["_law_found", "_law_due_here"] (sp__law_same K n)
  | 0 => (fn_vac fun vs H Q E ⟨a, _, _, h, _⟩ => Nat.not_lt_zero _ h.1).mono (Nat.zero_le _)
  | n + 1 => by
    have ih := ok_same T n
    refine fn_p T.F__law_same sc__law_same (fun _ => rfl) fun cdv A outer s H E hr => ⟨_, B__law_same T ih (Nat.le_refl _) hr, fun p hp st => ?_⟩
    obtain ⟨hp, ho⟩ : p.dep < n + 1 ∧ okP p := hp
    show Ws K _ _ [.dat p.d, .dat p.d, .no] st _
    have tup : (∃ ps : List Pt, p.d = .tuple (ps.map Pt.d) ∧ ps.length ≤ 5 ∧ ∀ q ∈ ps, q.dep < p.dep ∧ okP q) ∨ (∃ x, p = .s x) ∨ (∃ x, p = .i x) ∨ (∃ x, p = .b x) := by
      cases p with
      | s x => exact .inr (.inl ⟨x, rfl⟩)
      | i x => exact .inr (.inr (.inl ⟨x, rfl⟩))
      | b x => exact .inr (.inr (.inr ⟨x, rfl⟩))
      | rf x => exact .inl ⟨x.parts, rfl, Nat.le_of_ble_eq_true rfl, by simp [Rf.parts, Pt.dep, okP]⟩
      | rl r => exact .inl ⟨r.parts, r.d_parts, r.parts_len, fun q hq => ⟨r.parts_dep q hq, parts_ok r q hq⟩⟩
    apply w_seq
    rcases tup with ⟨ps, e, hl, hd⟩ | ⟨x, rfl⟩ | ⟨x, rfl⟩ | ⟨x, rfl⟩
    · rw [e]
      have ll : (ps.map Pt.d).length = ps.length := List.length_map _
      refine w_if (b := true) (eb_B (ev_isi (ev_var rfl) Pu.kb_tuple_tuple)) (fun _ => ?_) (fun h => nomatch h)
      apply w_seq
      refine w_if (b := false) (eb_orF (eb_not (b := true) (eb_B (ev_isi (ev_var rfl) Pu.kb_tuple_tuple))) (eb_test (ev_is (ev_neI (ev_lenT (ds := ps.map Pt.d) (ev_var rfl)) (ev_lenT (ds := ps.map Pt.d) (ev_var rfl))) (by rw [decide_eq_true rfl]; rfl)))) (fun h => nomatch h) fun _ => w_next ?_
      apply w_seq
      refine w_forR (n := ps.length) (ea_cons (ev_is (ev_lenT (ds := ps.map Pt.d) (ev_var rfl)) (by rw [ll])) ea_nil) (by omega) (fun i e s => s = st ∧ ∃ y, e = [.dat (.tuple (ps.map Pt.d)), .dat (.tuple (ps.map Pt.d)), y]) ⟨rfl, _, rfl⟩ ?_ ?_
      · rintro i e s hi ⟨rfl, y, rfl⟩
        have at_ : atI (ps.map Pt.d) (i : Int) = some ps[i].d := by
          refine atI_nat ?_
          rw [List.getElem?_map, List.getElem?_eq_getElem hi]
          rfl
        have h4 := hd _ (List.getElem_mem hi)
        exact w_if (b := false) (eb_not (b := true) (eb_B (ep_call (args := A_same) (ps[i]) (ea_cons (ev_ixT (ds := ps.map Pt.d) (ev_var rfl) (ev_var rfl) at_) (ea_cons (ev_ixT (ds := ps.map Pt.d) (ev_var rfl) (ev_var rfl) at_) ea_nil)) ⟨by omega, h4.2⟩))) (fun h => nomatch h) fun _ => w_next ⟨rfl, _, rfl⟩
      · rintro e' s ⟨rfl, y, rfl⟩
        exact w_ret ev_bl endP
    · refine w_if (b := false) (eb_B (ev_isi (ev_var rfl) Pu.kb_str_tuple)) (fun h => nomatch h) fun _ => w_next ?_
      apply w_seq
      refine w_if (b := false) (eb_orF (eb_B (ev_isi (ev_var rfl) Pu.kb_str_bool)) (eb_B (ev_isi (ev_var rfl) Pu.kb_str_bool))) (fun h => nomatch h) fun _ => w_next ?_
      apply w_seq
      refine w_if (b := false) (eb_B (ev_isi (ev_var rfl) Pu.kb_str_int)) (fun h => nomatch h) fun _ => w_next ?_
      exact w_ret (ev_andV (ev_isi (ev_var rfl) Pu.kb_str_str) fun _ => ev_eqD (d := .str x) (e := .str x) (ev_var rfl) (ev_var rfl) ho ho) (endPe (by simp [PyData.eqv]))
    · refine w_if (b := false) (eb_B (ev_isi (ev_var rfl) Pu.kb_int_tuple)) (fun h => nomatch h) fun _ => w_next ?_
      apply w_seq
      refine w_if (b := false) (eb_orF (eb_B (ev_isi (ev_var rfl) Pu.kb_int_bool)) (eb_B (ev_isi (ev_var rfl) Pu.kb_int_bool))) (fun h => nomatch h) fun _ => w_next ?_
      apply w_seq
      refine w_if (b := true) (eb_B (ev_isi (ev_var rfl) Pu.kb_int_int)) (fun _ => ?_) fun h => nomatch h
      exact w_ret (ev_andV (ev_isi (ev_var rfl) Pu.kb_int_int) fun _ => ev_eqD (d := .int x) (e := .int x) (ev_var rfl) (ev_var rfl) rfl rfl) (endPe (by simp [PyData.eqv]))
    · refine w_if (b := false) (eb_B (ev_isi (ev_var rfl) Pu.kb_bool_tuple)) (fun h => nomatch h) fun _ => w_next ?_
      apply w_seq
      refine w_if (b := true) (eb_orT (eb_B (ev_isi (ev_var rfl) Pu.kb_bool_bool))) (fun _ => ?_) fun h => nomatch h
      exact w_ret (ev_andV (ev_isi (ev_var rfl) Pu.kb_bool_bool) fun _ => ev_andV (ev_isi (ev_var rfl) Pu.kb_bool_bool) fun _ => ev_eqD (d := .bool x) (e := .bool x) (ev_var rfl) (ev_var rfl) rfl rfl) (endPe (by simp [PyData.eqv]))
theorem fc_same {n : Nat} {es : Es} {st st1 : List Ob} {ts : TA} {r : Rl} {E : XK} (h : EvA K ts es st st1 [.dat r.d, .dat r.d]) (hn : r.dep < n) : Ev K (tCall (sp__law_same K n) [] E ts) es st st1 (.dat (.bool true)) :=
  ep_call (args := A_same) (.rl r) h ⟨hn, True.intro⟩
abbrev A_on : QQ × Bx → List Pv.It := fun a => [.dat (Pl.pD a.1), .dat (.int a.2.h), .dat (.int a.2.w)]
abbrev sp__law_on (K : PySem.W.Frag) : Sp := spP (α := QQ × Bx) K A_on (fun _ => True) (fun a => .dat (.bool (onS a.2 a.1.1 a.1.2)))
theorem ok_on (T : Top K mg w) : FnOk P w K mg base CX0 1 T.a__law_on T.d__law_on ["_law_place", "_law_high", "_law_wide"] (sp__law_on K) := by
  refine fn_p T.F__law_on sc__law_on (fun _ => rfl) fun cdv A outer s H E hr => ⟨_, B__law_on T hr, fun a hp st => ?_⟩
  obtain ⟨p, B⟩ := a
  show Ws K _ _ [.dat (.tuple [.int p.1, .int p.2]), .dat (.int B.h), .dat (.int B.w)] _ _
  exact w_ret (ev_andV (ev_I0b (b := decide (0 ≤ p.1)) ev_int (ev_ixT (ev_var rfl) ev_int Pu.at0) rfl) fun _ => ev_andV (ev_I0b (b := decide (p.1 < B.h)) (ev_ixT (ev_var rfl) ev_int Pu.at0) (ev_var rfl) rfl) fun _ => ev_andV (ev_I0b (b := decide (0 ≤ p.2)) ev_int (ev_ixT (ev_var rfl) ev_int Pu.at1) rfl) fun _ => ev_I0b (b := decide (p.2 < B.w)) (ev_ixT (ev_var rfl) ev_int Pu.at1) (ev_var rfl) rfl) (endPe (by rw [← onS_eq]))
/-! ### rules that are drawn -/
def drawM (ns : List Int) (k : Nat) (h w : Int) : Rl :=
  let c := cell_atM ns (4 + k)
  let r := if h * w = 144 then Rl.sub (.cell ⟨c % 12, c / 12 % 12, true, true⟩) (.num (c % 1000)) else rule_byM c h w
  if cell_atM ns 15 % 3 = 1 then wrM (cell_atM ns 15 + k) r (1 + cell_atM ns 15 / 3 % 5).toNat else r
def ru0 (c h w : Int) : Rl := if h * w = 144 then Rl.sub (.cell ⟨c % 12, c / 12 % 12, true, true⟩) (.num (c % 1000)) else rule_byM c h w
theorem drawM_eq (ns : List Int) (k : Nat) (h w : Int) : drawM ns k h w = if cell_atM ns 15 % 3 = 1 then wrM (cell_atM ns 15 + k) (ru0 (cell_atM ns (4 + k)) h w) (1 + cell_atM ns 15 / 3 % 5).toNat else ru0 (cell_atM ns (4 + k)) h w := rfl
/-- what is drawn is small, and lies on the sheet -/
theorem ru0_ok {B : Bx} (z : Sz B) (c : Int) : (ru0 c B.h B.w).size ≤ 6 ∧ dp (ru0 c B.h B.w) ≤ 3 ∧ inb B (ru0 c B.h B.w) := by
  unfold ru0
  split
  · rename_i e
    refine ⟨Nat.le_of_ble_eq_true rfl, Nat.le_of_ble_eq_true rfl, ⟨?_, True.intro⟩⟩
    have h1 := z.h1
    have w1 := z.w1
    have a0 := z.a0
    have b0 := z.b0
    have hB : B.h = 12 ∧ B.w = 12 := by
      have e : B.h * B.w = 144 := by
        have e2 : ((B.h * B.w : Nat) : Int) = 144 := by rw [Int.natCast_mul]; exact e
        omega
      have m1 : B.h * B.w ≤ 12 * B.w := Nat.mul_le_mul_right _ h1
      have m2 : B.h * B.w ≤ B.h * 12 := Nat.mul_le_mul_left _ w1
      omega
    have m1 := Int.emod_nonneg c (show (12 : Int) ≠ 0 by decide)
    have m2 := Int.emod_lt_of_pos c (show (0 : Int) < 12 by decide)
    have m3 := Int.emod_nonneg (c / 12) (show (12 : Int) ≠ 0 by decide)
    have m4 := Int.emod_lt_of_pos (c / 12) (show (0 : Int) < 12 by decide)
    show B.has _ _
    unfold Bx.has
    dsimp only
    omega
  · exact ⟨rule_size _ _ _, rule_dp _ _ _, rule_inb z _⟩
theorem drawM_ok {B : Bx} (z : Sz B) (ns : List Int) (k : Nat) : (drawM ns k B.h B.w).size ≤ 21 ∧ dp (drawM ns k B.h B.w) ≤ 8 ∧ inb B (drawM ns k B.h B.w) := by
  obtain ⟨a, b, c⟩ := ru0_ok z (cell_atM ns (4 + k))
  rw [drawM_eq]
  split
  · obtain ⟨d, e, f⟩ := wrM_ok (c := cell_atM ns 15 + k) (r := ru0 (cell_atM ns (4 + k)) B.h B.w) (1 + cell_atM ns 15 / 3 % 5).toNat
    have m1 := Int.emod_lt_of_pos (cell_atM ns 15 / 3) (show (0 : Int) < 5 by decide)
    exact ⟨by omega, by omega, f B c⟩
  · exact ⟨by omega, by omega, c⟩
abbrev A_draw : List Int × Nat × Bx → List Pv.It := fun a => [.dat (.list (a.1.map PyData.int)), .dat (.int (a.2.1 : Nat)), .dat (.int a.2.2.h), .dat (.int a.2.2.w)]
abbrev sp__law_drawn_rule (K : PySem.W.Frag) : Sp := spP (α := List Int × Nat × Bx) K A_draw (fun a => Sz a.2.2) (fun a => .dat (drawM a.1 a.2.1 a.2.2.h a.2.2.w).d)
theorem ok_drawn (T : Top K mg w) : FnOk P w K mg base CX0 8 T.a__law_drawn_rule T.d__law_drawn_rule ["_law_script", "_law_k", "_law_high", "_law_wide"] (sp__law_drawn_rule K) := by
  refine fn_p T.F__law_drawn_rule sc__law_drawn_rule (fun _ => rfl) fun cdv A outer s H E hr => ⟨_, B__law_drawn_rule T (ok_cell_at T) (by decide) (ok_rule_by T) (by decide) (ok_wrapped T) (by decide) hr, fun a hp st => ?_⟩
  obtain ⟨ns, k, B⟩ := a
  have z : Sz B := hp
  have hw : (0 : Int) < (B.w : Int) := by have := z.w0; omega
  have hh : (0 : Int) < (B.h : Int) := by have := z.h0; omega
  have h12 := z.h1
  have w12 := z.w1
  show Ws K _ _ [.dat (.list (ns.map PyData.int)), .dat (.int (k : Nat)), .dat (.int B.h), .dat (.int B.w), .no, .no] st _
  have cl : ∀ {es : Es} {te : TE} {k : Int}, es[0]? = some (.dat (.list (ns.map PyData.int))) → Ev K te es st st (.dat (.int k)) → 0 ≤ k → Ev K (tCall (sp__law_cell_at K) [] E0 (tCons (tVar 0) (tCons te tNil))) es st st (.dat (.int (cell_atM ns k.toNat))) := fun h he h0 => ec_cell_at (ev_var h) he h0
  have e4 : ((4 : Int) + (k : Nat)).toNat = 4 + k := by omega
  apply w_seq
  refine w_asg (x := .dat (.int (cell_atM ns (4 + k)))) (ev_is (cl rfl (ev_I0 ev_int (ev_var rfl) rfl) (by omega)) (by rw [e4])) ?_
  apply w_seq
  refine w_asg (x := .dat (rule_byM (cell_atM ns (4 + k)) B.h B.w).d) (ep_call (args := A_rule_by) (cell_atM ns (4 + k), (B.h : Int), (B.w : Int)) (ea_cons (ev_var rfl) (ea_cons (ev_var rfl) (ea_cons (ev_var rfl) ea_nil))) ⟨hh, hw⟩) ?_
  refine w_seqI (fun es s => s = st ∧ es = [.dat (.list (ns.map PyData.int)), .dat (.int (k : Nat)), .dat (.int B.h), .dat (.int B.w), .dat (.int (cell_atM ns (4 + k))), .dat (ru0 (cell_atM ns (4 + k)) B.h B.w).d]) ?_ ?_
  · refine w_if (eb_test (ev_eqI (ev_I (ev_var rfl) (ev_var rfl) rfl (.inl ⟨by omega, by omega⟩)) ev_int)) (fun hb => ?_) (fun hb => w_next ⟨rfl, ?_⟩)
    · have hb := of_decide_eq_true hb
      refine w_asg (x := .dat (ru0 (cell_atM ns (4 + k)) B.h B.w).d) ?_ ⟨rfl, rfl⟩
      unfold ru0
      rw [if_pos hb]
      generalize cell_atM ns (4 + k) = c
      let x : Rf := ⟨c % 12, c / 12 % 12, true, true⟩
      exact ev_tup (ds := [.str "sub", (Rl.cell x).d, (Rl.num (c % 1000)).d]) (ed_cons ev_str (ed_cons (ev_tup (ds := [.str "cell", x.d]) (ed_cons ev_str (ed_cons (ev_tup (ds := [.int (c % 12), .int (c / 12 % 12), .bool true, .bool true]) (ed_cons (ev_I (ev_var rfl) ev_int rfl (by decide)) (ed_cons (ev_I (ev_I (ev_var rfl) ev_int rfl ⟨by decide, by decide⟩) ev_int rfl (by decide)) (ed_cons ev_bl (ed_cons ev_bl ed_nil)))) (Nat.le_of_ble_eq_true rfl)) ed_nil)) (Nat.le_of_ble_eq_true rfl)) (ed_cons (ev_tup (ds := [.str "num", .int (c % 1000)]) (ed_cons ev_str (ed_cons (ev_I (ev_var rfl) ev_int rfl (by decide)) ed_nil)) (Nat.le_of_ble_eq_true rfl)) ed_nil))) (Nat.le_of_ble_eq_true rfl)
    · have hb := of_decide_eq_false hb
      unfold ru0
      rw [if_neg hb]
      rfl
  rintro es s ⟨rfl, rfl⟩
  refine w_seqI (fun es s' => s' = s ∧ ∃ a b c d e, es = [a, b, c, d, e, .dat (drawM ns k B.h B.w).d]) ?_ ?_
  · rw [drawM_eq]
    refine w_if (eb_test (ev_eqI (ev_I (cl rfl ev_int (by decide)) ev_int rfl (by decide)) ev_int)) (fun hb => ?_) (fun hb => w_next ⟨rfl, ?_⟩)
    · have hb : cell_atM ns 15 % 3 = 1 := of_decide_eq_true hb
      rw [if_pos hb]
      have m0 := Int.emod_nonneg (cell_atM ns 15 / 3) (show (5 : Int) ≠ 0 by decide)
      have m1 := Int.emod_lt_of_pos (cell_atM ns 15 / 3) (show (0 : Int) < 5 by decide)
      have e5 : (((1 + cell_atM ns 15 / 3 % 5).toNat : Nat) : Int) = 1 + cell_atM ns 15 / 3 % 5 := Int.toNat_of_nonneg (by omega)
      exact w_asg (x := .dat (wrM (cell_atM ns 15 + k) (ru0 (cell_atM ns (4 + k)) B.h B.w) (1 + cell_atM ns 15 / 3 % 5).toNat).d) (ep_call (args := A_wrapped) (ru0 (cell_atM ns (4 + k)) B.h B.w, cell_atM ns 15 + k, (1 + cell_atM ns 15 / 3 % 5).toNat) (ea_cons (ev_var rfl) (ea_cons (ev_I0 (cl rfl ev_int (by decide)) (ev_var rfl) rfl) (ea_cons (ev_is (ev_I0 ev_int (ev_I (ev_I (cl rfl ev_int (by decide)) ev_int rfl ⟨by decide, by decide⟩) ev_int rfl (by decide)) rfl) (by rw [e5]; rfl)) ea_nil))) (by show (1 + cell_atM ns 15 / 3 % 5).toNat ≤ 5; omega)) ⟨rfl, _, _, _, _, _, rfl⟩
    · have hb : ¬ cell_atM ns 15 % 3 = 1 := of_decide_eq_false hb
      rw [if_neg hb]
      exact ⟨_, _, _, _, _, rfl⟩
  rintro es s' ⟨rfl, a, b, c, d, e, rfl⟩
  exact w_ret (ev_var rfl) endP
end
end K06

namespace K06
open PySem PySem.Spec L2 Pr Pl Pv Pq
open Evl (Ex rLenS rMax2 rListS)
open PyProof.Rows (envOfC)
/-! own words of the walk -/
local macro_rules | `(tactic| walk_at "side") => `(tactic| first
  | rfl | exact Pu.at_m1 | exact Pu.at_m1' | exact Pu.at_m1'' | exact Pu.at_m2 | exact Pu.at_m2' | exact Pu.at_m3 | exact Pu.at0 | exact Pu.at1 | exact Pu.at2 | exact Pu.at3 | exact Pu.at4 | assumption | decide | omega | exact ⟨by decide, by decide⟩ | exact ⟨by omega, by omega⟩ | exact Or.inr ⟨by omega, by omega⟩ | exact Or.inl ⟨by omega, by omega⟩ | exact Or.inr ⟨by decide, by decide⟩)
local macro_rules | `(tactic| walk_at "ec") => `(tactic| fail)
local macro_rules | `(tactic| walk_at "tab") => `(tactic| assumption)
local macro_rules | `(tactic| walk_at "shape") => `(tactic| first | rfl | assumption)
local macro_rules | `(tactic| walk_at "e") => `(tactic| first
  | exact ev_int | exact ev_str | exact ev_bl | exact ev_non | exact ev_var rfl
  | (apply ev_ixT; (walk_at "e"); (walk_at "e"); (walk_at "side"))
  | (apply ev_ixL; (walk_at "e"); (walk_at "e"); (walk_at "side"))
  | (apply ev_ixO; (walk_at "e"); (walk_at "e"); (rfl); (walk_at "side"))
  | (apply ev_I0; (walk_at "e"); (walk_at "e"); (rfl))
  | (apply ev_I0b; (walk_at "e"); (walk_at "e"); (rfl))
  | (apply ev_I; (walk_at "e"); (walk_at "e"); (rfl); (walk_at "side"))
  | (apply ev_neg; (walk_at "e"); (rfl))
  | (apply ev_eqI; (walk_at "e"); (walk_at "e"))
  | (apply ev_eqS; (walk_at "e"); (walk_at "e"))
  | (apply ev_eqB; (walk_at "e"); (walk_at "e"))
  | (apply ev_neI; (walk_at "e"); (walk_at "e"))
  | (apply ev_neS; (walk_at "e"); (walk_at "e"))
  | (apply ev_eqD; (walk_at "e"); (walk_at "e"); (walk_at "shape"); (walk_at "shape"))
  | (apply ev_neD; (walk_at "e"); (walk_at "e"); (walk_at "shape"); (walk_at "shape"))
  | (apply ev_andV; (walk_at "e"); (intro _; walk_at "e"))
  | (apply ev_orV; (walk_at "e"); (intro _; walk_at "e"))
  | (apply ev_notV; (walk_at "e"))
  | (apply ev_tup; (walk_at "s"); (exact Nat.le_of_ble_eq_true rfl))
  | (apply ev_lst; (walk_at "a"); (exact Nat.le_of_ble_eq_true rfl))
  | (apply ev_slT; (walk_at "e"); (walk_at "o"); (walk_at "o"); (rfl))
  | (apply ev_slL; (walk_at "e"); (walk_at "o"); (walk_at "o"))
  | (apply ev_lenT; (walk_at "e"))
  | (apply ev_len; (walk_at "l"))
  | (apply ev_min2; (walk_at "e"); (walk_at "e"))
  | (apply ev_max2; (walk_at "e"); (walk_at "e"))
  | (apply ev_isi; (walk_at "e"); (first | exact Pu.kb_int_int | exact Pu.kb_int_bool | exact Pu.kb_int_str | exact Pu.kb_int_list | exact Pu.kb_int_tuple | exact Pu.kb_bool_int | exact Pu.kb_bool_bool | exact Pu.kb_bool_str | exact Pu.kb_bool_list | exact Pu.kb_bool_tuple | exact Pu.kb_str_int | exact Pu.kb_str_bool | exact Pu.kb_str_str | exact Pu.kb_str_list | exact Pu.kb_str_tuple | exact Pu.kb_list_int | exact Pu.kb_list_bool | exact Pu.kb_list_str | exact Pu.kb_list_list | exact Pu.kb_list_tuple | exact Pu.kb_tuple_int | exact Pu.kb_tuple_bool | exact Pu.kb_tuple_str | exact Pu.kb_tuple_list | exact Pu.kb_tuple_tuple | exact Pu.kb_NoneType_int | exact Pu.kb_NoneType_bool | exact Pu.kb_NoneType_str | exact Pu.kb_NoneType_list | exact Pu.kb_NoneType_tuple))
  | (apply ev_intB; (walk_at "e"))
  | (apply ev_isN; (walk_at "e"))
  | (apply ev_tupT; (walk_at "e"))
  | (apply ev_tupL; (walk_at "l"))
  | (apply ev_listT; (walk_at "e"))
  | (apply ev_listL; (walk_at "l"))
  | (apply ev_catL; (walk_at "e"); (walk_at "e"); (walk_at "side"))
  | walk_at "ec")
local macro_rules | `(tactic| walk_at "l") => `(tactic| first
  | (apply el_dat; (walk_at "e"))
  | (apply el_ob; (walk_at "e"); (rfl))
  | (apply el_fr; (walk_at "e")))
local macro_rules | `(tactic| walk_at "o") => `(tactic| first
  | exact eo_none
  | (apply eo_some; (walk_at "e")))
local macro_rules | `(tactic| walk_at "a") => `(tactic| first
  | exact ea_nil
  | (apply ea_cons; (walk_at "e"); (walk_at "a")))
local macro_rules | `(tactic| walk_at "s") => `(tactic| first
  | exact ed_nil
  | (apply ed_cons; (walk_at "e"); (walk_at "s")))
local macro_rules | `(tactic| walk_at "b") => `(tactic| first
  | exact eb_yes
  | (apply eb_test; (walk_at "e"))
  | (apply eb_B; (walk_at "e"))
  | (apply eb_truB; (walk_at "e"))
  | (apply eb_truL; (walk_at "l"))
  | (apply eb_truI; (walk_at "e"))
  | (apply eb_not; (walk_at "b"))
  | (apply eb_and; (walk_at "b"); (intro _; walk_at "b"))
  | (apply eb_or; (walk_at "b"); (intro _; walk_at "b")))
section
variable {P : Program} {w : World} {K : PySem.W.Frag} {mg : Str → Option Value} {base : Heap}
/-! ### rules copied on a sheet; what is refused -/
structure Cp where
  B : Bx
  k : Nat
  j : Nat
  f : QQ → Rl
  s : QQ
  t : QQ
  u : QQ
abbrev Cp.r (x : Cp) (q : QQ) : Rl := sh (q.1 - x.s.1) (q.2 - x.s.2) (x.f x.s)
abbrev Cp.ar (x : Cp) : List QQ := areaP x.t.1 x.t.2 x.u.1 x.u.2
/-- whether nothing is refused -/
def Cp.ok (x : Cp) : Bool := onS x.B x.s.1 x.s.2 && (onS x.B x.t.1 x.t.2 && (onS x.B x.u.1 x.u.2 && x.ar.all fun q => refsOn x.B (x.r q)))
/-- the rules behind it -/
def Cp.g (x : Cp) : QQ → Rl := fun q => if q ∈ x.ar then x.r q else x.f q
abbrev A_copy : Cp → List Pv.It := fun x => [.ob x.k, .dat (Pl.pD x.s), .dat (Pl.pD x.t)]
abbrev preC (T : Top K mg w) (st : List Ob) (x : Cp) : Prop := Sz x.B ∧ Ss T.c_Sheet x.B x.k x.j (mT (vB x.B) x.f) st ∧ x.B.has x.s.1 x.s.2 ∧ (x.f x.s).size ≤ 1000
def R_copy (T : Top K mg w) (x : Cp) : Re := if refsOn x.B (x.r x.t) then .ret (.dat (x.r x.t).d) else .exc T.c_OffSheet
abbrev sp_copyX (T : Top K mg w) : Sp := spX (α := Cp) K A_copy (preC T) (R_copy T)
theorem ok_copyX (T : Top K mg w) : FnOk P w K mg base (L2.CX P w) 6 T.a_Sheet_copy T.d_Sheet_copy ["self", "source", "target"] (sp_copyX T) := by
  refine fn_x T.F_Sheet_copy sc_Sheet_copy (fun _ => rfl) fun cdv A outer s H E hr => ⟨_, B_Sheet_copy T (ok_roff T) (by decide) (ok_shifted T) (by decide) hr, fun x st hp => ?_⟩
  obtain ⟨B, k, j, f, p, t, u⟩ := x
  obtain ⟨z, hs, hp, hz⟩ : Sz B ∧ Ss T.c_Sheet B k j (mT (vB B) f) st ∧ B.has p.1 p.2 ∧ (f p).size ≤ 1000 := hp
  show Ws K _ _ [.ob k, .dat (.tuple [.int p.1, .int p.2]), .dat (.tuple [.int t.1, .int t.2]), .no] st (postX st (R_copy T ⟨B, k, j, f, p, t, u⟩))
  let r := sh (t.1 - p.1) (t.2 - p.2) (f p)
  apply w_seq
  refine w_asg (x := .dat r.d) (fc_shifted (r := f p) (ea_cons (ev_dget (p := p) (ev_fld (ev_var rfl) hs.s rfl T.cl_Sheet T.n_Sheet_rules) (ev_var rfl) hs.d (mT_look (vB_dup B) ((vB_mem z).mpr hp))) (ea_cons (ev_I0 (ev_ixT (ev_var rfl) ev_int Pu.at0) (ev_ixT (ev_var rfl) ev_int Pu.at0) rfl) (ea_cons (ev_I0 (ev_ixT (ev_var rfl) ev_int Pu.at1) (ev_ixT (ev_var rfl) ev_int Pu.at1) rfl) ea_nil))) hz) ?_
  apply w_seq
  have hz' : r.size ≤ 1000 := by rw [sh_size]; exact hz
  cases hr : refsOn B r with
  | true =>
    refine w_drop (em_x (r := .dat .none) ((⟨B, k, j, ⟨0, 0, []⟩⟩, r) : Ro × Rl) (ev_var rfl) hs.s rfl (ea_cons (ev_var rfl) ea_nil) rfl ⟨hs.s, hz'⟩ ?_) ?_
    · unfold R_roff
      rw [hr]
      rfl
    refine w_ret (ev_var rfl) ⟨.dat r.d, ?_, endP⟩
    show R_copy T ⟨B, k, j, f, p, t, u⟩ = _
    unfold R_copy
    exact if_pos hr
  | false =>
    refine w_dropX (ex_x (C' := T.c_OffSheet) ((⟨B, k, j, ⟨0, 0, []⟩⟩, r) : Ro × Rl) (ev_var rfl) hs.s rfl (ea_cons (ev_var rfl) ea_nil) rfl ⟨hs.s, hz'⟩ ?_) ⟨?_, [], (List.append_nil _).symm⟩
    · unfold R_roff
      rw [hr]
      rfl
    · show R_copy T ⟨B, k, j, f, p, t, u⟩ = _
      unfold R_copy
      exact if_neg (by show ¬ refsOn B r = true; rw [hr]; exact Bool.false_ne_true)
theorem em_copyX (T : Top K mg w) {es : Es} {st st1 : List Ob} {ta : TE} {ts : TA} {E : XK} (x : Cp) (h0 : Ev K ta es st st1 (.ob x.k)) (hs1 : Ss T.c_Sheet x.B x.k x.j (mT (vB x.B) x.f) st1) (h : EvA K ts es st1 st1 [.dat (Pl.pD x.s), .dat (Pl.pD x.t)]) (hp : preC T st1 x) (hr : refsOn x.B (x.r x.t) = true) : Ev K (tMeth T.c_Sheet "_copy" (sp_copyX T) [] E ta ts) es st st1 (.dat (x.r x.t).d) :=
  em_x x h0 hs1.s rfl h rfl hp (by unfold R_copy; exact if_pos hr)
theorem ex_copyX (T : Top K mg w) {es : Es} {st st1 : List Ob} {ta : TE} {ts : TA} {E : XK} (x : Cp) (h0 : Ev K ta es st st1 (.ob x.k)) (hs1 : Ss T.c_Sheet x.B x.k x.j (mT (vB x.B) x.f) st1) (h : EvA K ts es st1 st1 [.dat (Pl.pD x.s), .dat (Pl.pD x.t)]) (hp : preC T st1 x) (hr : refsOn x.B (x.r x.t) = false) : ExC K (cW E) (tMeth T.c_Sheet "_copy" (sp_copyX T) [] E ta ts) es st T.c_OffSheet st1 :=
  ex_x x h0 hs1.s rfl h rfl hp (by unfold R_copy; exact if_neg (by rw [hr]; exact Bool.false_ne_true))
theorem w_dputX {W : WE} {PP : Post} {es : Es} {st st1 : List Ob} {ta tb te : TE} {C : Addr} (h : ExC K W te es st C st1) (hn : PP.ex C es st1) : Ws K W (sDPut ta tb te) es st PP := .mk fun {G H ρ σ D} S T k => h.run S T fun G1 H1 ρ1 m1 S1 => k.ex _ _ _ _ _ C _ hn m1 S1 (T.mv m1)
theorem mT_okn (V : List QQ) (f : QQ → Rl) (n : Nat) : okOb n (.dic (mT V f)) = true := mT_dats _ _
theorem off_ret (T : Top K mg w) {B : Bx} {p : QQ} (hp : onS B p.1 p.2 = true) (k j : Nat) : R_off T ⟨B, k, j, ⟨p.1, p.2, []⟩⟩ = .ret (.dat .none) := by
  unfold R_off
  exact if_pos hp
theorem off_exc (T : Top K mg w) {B : Bx} {p : QQ} (hp : onS B p.1 p.2 = false) (k j : Nat) : R_off T ⟨B, k, j, ⟨p.1, p.2, []⟩⟩ = .exc T.c_OffSheet := by
  unfold R_off
  exact if_neg (by rw [hp]; exact Bool.false_ne_true)
def O_fill (T : Top K mg w) (x : List Ob × Cp) : Pv.Out := if x.2.ok then .ret (.dat .none) (x.1.set x.2.j (.dic (mT (vB x.2.B) x.2.g))) else .exc T.c_OffSheet x.1
abbrev preF (T : Top K mg w) (x : List Ob × Cp) : Prop := Sz x.2.B ∧ Ss T.c_Sheet x.2.B x.2.k x.2.j (mT (vB x.2.B) x.2.f) x.1 ∧ okSt x.1 = true ∧ ∀ q : QQ, x.2.B.has q.1 q.2 → (x.2.f q).size ≤ 1000
theorem fill_len (T : Top K mg w) (x : List Ob × Cp) : x.1.length ≤ (outSt (O_fill T x)).length := by
  unfold O_fill
  split
  · show _ ≤ (x.1.set _ _).length
    rw [List.length_set]
    exact Nat.le_refl _
  · exact Nat.le_refl _
theorem fill_exc (T : Top K mg w) {st : List Ob} {x : Cp} (hok : okSt st = true) (h : x.ok = false) : ExcOk T.c_OffSheet st (O_fill T (st, x)) := by
  unfold O_fill
  rw [if_neg (by rw [h]; exact Bool.false_ne_true)]
  exact ⟨rfl, [], (List.append_nil _).symm, hok⟩
theorem fill_ret (T : Top K mg w) {st ex : List Ob} {x : Cp} (hok : okSt st = true) (h : x.ok = true) : RetOk (.dat .none) (st.set x.j (.dic (mT (vB x.B) x.g)) ++ ex) (O_fill T (st, x)) := by
  unfold O_fill
  rw [if_pos h]
  exact ⟨ex, rfl, okSt_set hok (mT_okn _ _ _), .inl ⟨rfl, rfl⟩⟩
abbrev A_copied : List Ob × Cp → List Pv.It := fun x => A_copy x.2
abbrev sp_copied (T : Top K mg w) : Sp := spV (α := List Ob × Cp) K A_copied (fun x => preF T x ∧ x.2.u = x.2.t) (fun x => x.1) (O_fill T)
theorem areaP_one (p : QQ) : areaP p.1 p.2 p.1 p.2 = [p] := area_one ⟨p.1, p.2, false, false⟩
theorem upF_one (x : Cp) (h : x.u = x.t) : x.g = upF x.f x.t (x.r x.t) := by
  funext q
  unfold Cp.g Cp.ar upF
  rw [h, areaP_one]
  by_cases e : q = x.t
  · subst e
    rw [if_pos (List.mem_singleton.mpr rfl), if_pos rfl]
  · rw [if_neg (fun z => e (List.mem_singleton.mp z)), if_neg e]
theorem ok_copied (T : Top K mg w) : FnOk P w K mg base (L2.CX P w) 8 T.a_Sheet_copied T.d_Sheet_copied ["self", "source", "target"] (sp_copied T) := by
  refine fn_vX T.F_Sheet_copied sc_Sheet_copied (fun _ => rfl) (fun x _ => fill_len T x) fun cdv A outer s H E hr => ⟨_, B_Sheet_copied T (ok_copyX T) (by decide) (ok_off T) (by decide) hr, fun x hp => ?_⟩
  obtain ⟨st, y⟩ := x
  obtain ⟨⟨z, hs, hok, hz⟩, hu⟩ := hp
  have e1 := upF_one y hu
  obtain ⟨B, k, j, f, p, t, u⟩ := y
  have hu : u = t := hu
  subst hu
  have z : Sz B := z
  have hs : Ss T.c_Sheet B k j (mT (vB B) f) st := hs
  have hok : okSt st = true := hok
  have hz : ∀ q : QQ, B.has q.1 q.2 → (f q).size ≤ 1000 := hz
  have l144 := vB_len z
  have okE : ∀ b : Bool, (onS B p.1 p.2 && (onS B u.1 u.2 && refsOn B (sh (u.1 - p.1) (u.2 - p.2) (f p)))) = b → (⟨B, k, j, f, p, u, u⟩ : Cp).ok = b := fun b h => by
    rw [← h]
    unfold Cp.ok Cp.ar
    dsimp only
    rw [areaP_one]
    show _ = _
    rw [List.all_cons, List.all_nil, Bool.and_true]
    cases onS B u.1 u.2 <;> rfl
  show Ws K _ _ [.ob k, .dat (Pl.pD p), .dat (Pl.pD u)] st (fnPost (O_fill T (st, ⟨B, k, j, f, p, u, u⟩)))
  apply w_seq
  cases hp : onS B p.1 p.2 with
  | false => exact w_dropX (ex_x (C' := T.c_OffSheet) (⟨B, k, j, ⟨p.1, p.2, []⟩⟩ : Ro) (ev_var rfl) hs.s rfl (ea_cons (ev_var rfl) ea_nil) rfl hs.s (off_exc T hp k j)) (fill_exc T hok (okE _ (by rw [hp]; rfl)))
  | true =>
    refine w_drop (em_x (r := .dat .none) (⟨B, k, j, ⟨p.1, p.2, []⟩⟩ : Ro) (ev_var rfl) hs.s rfl (ea_cons (ev_var rfl) ea_nil) rfl hs.s (off_ret T hp k j)) ?_
    apply w_seq
    cases ht : onS B u.1 u.2 with
    | false => exact w_dropX (ex_x (C' := T.c_OffSheet) (⟨B, k, j, ⟨u.1, u.2, []⟩⟩ : Ro) (ev_var rfl) hs.s rfl (ea_cons (ev_var rfl) ea_nil) rfl hs.s (off_exc T ht k j)) (fill_exc T hok (okE _ (by rw [hp, ht]; rfl)))
    | true =>
      refine w_drop (em_x (r := .dat .none) (⟨B, k, j, ⟨u.1, u.2, []⟩⟩ : Ro) (ev_var rfl) hs.s rfl (ea_cons (ev_var rfl) ea_nil) rfl hs.s (off_ret T ht k j)) ?_
      have hp' := (onS_iff z).mp hp
      have ht' := (onS_iff z).mp ht
      have hc : preC T st ⟨B, k, j, f, p, u, u⟩ := ⟨z, hs, hp', hz p hp'⟩
      cases hr : refsOn B (sh (u.1 - p.1) (u.2 - p.2) (f p)) with
      | false =>
        exact w_dputX (ex_copyX T ⟨B, k, j, f, p, u, u⟩ (ev_var rfl) hs (ea_cons (ev_var rfl) (ea_cons (ev_var rfl) ea_nil)) hc hr) (fill_exc T hok (okE _ (by rw [hp, ht, hr]; rfl)))
      | true =>
        refine w_dput (k := j) (p := u) (m := mT (vB B) f) (x := .dat (sh (u.1 - p.1) (u.2 - p.2) (f p)).d) (em_copyX T ⟨B, k, j, f, p, u, u⟩ (ev_var rfl) hs (ea_cons (ev_var rfl) (ea_cons (ev_var rfl) ea_nil)) hc hr) (ev_fld (ev_var rfl) hs.s rfl T.cl_Sheet T.n_Sheet_rules) (ev_var rfl) hs.d (by rw [mT_len]; omega) ?_
        rw [mT_put ((vB_mem z).mpr ht')]
        have F := fill_ret T (ex := []) (x := ⟨B, k, j, f, p, u, u⟩) hok (okE _ (by rw [hp, ht, hr]; rfl))
        rw [e1, List.append_nil] at F
        exact F

abbrev A_filled : List Ob × Cp → List Pv.It := fun x => [.ob x.2.k, .dat (Pl.pD x.2.s), .dat (Pl.pD x.2.t), .dat (Pl.pD x.2.u)]
abbrev sp_filled (T : Top K mg w) : Sp := spV (α := List Ob × Cp) K A_filled (preF T) (fun x => x.1) (O_fill T)
/-- the first that is not so -/
theorem first_bad {α : Type} (Q : α → Bool) : ∀ (l : List α), l.all Q = false → ∃ (n : Nat) (b : α), l[n]? = some b ∧ Q b = false ∧ ∀ (i : Nat) (a : α), i < n → l[i]? = some a → Q a = true
  | [], h => nomatch h
  | a :: l, h => by
    cases ha : Q a with
    | false => exact ⟨0, a, rfl, ha, fun i _ hi => absurd hi (Nat.not_lt_zero _)⟩
    | true =>
      rw [List.all_cons, ha, Bool.true_and] at h
      obtain ⟨n, b, h1, h2, h3⟩ := first_bad Q l h
      refine ⟨n + 1, b, h1, h2, fun i c hi hc => ?_⟩
      cases i with
      | zero =>
        cases hc
        exact ha
      | succ i => exact h3 i c (by omega) hc
theorem ok_filled (T : Top K mg w) : FnOk P w K mg base (L2.CX P w) 8 T.a_Sheet_filled T.d_Sheet_filled ["self", "source", "one", "two"] (sp_filled T) := by
  refine fn_vX T.F_Sheet_filled sc_Sheet_filled (fun _ => rfl) (fun x _ => fill_len T x) fun cdv A outer s H E hr => ⟨_, B_Sheet_filled T (ok_copyX T) (by decide) (ok_off T) (by decide) (ok_area T) (by decide) hr, fun x hp => ?_⟩
  obtain ⟨st, x⟩ := x
  obtain ⟨z, hs, hok, hz⟩ := hp
  obtain ⟨y, ey⟩ : ∃ y : Cp, y = x := ⟨x, rfl⟩
  obtain ⟨B, k, j, f, p, t, u⟩ := x
  have z : Sz B := z
  have hs : Ss T.c_Sheet B k j (mT (vB B) f) st := hs
  have hok : okSt st = true := hok
  have hz : ∀ q : QQ, B.has q.1 q.2 → (f q).size ≤ 1000 := hz
  have l144 := vB_len z
  have jl := (List.getElem?_eq_some_iff.mp hs.d).1
  show Ws K _ _ [.ob k, .dat (Pl.pD p), .dat (Pl.pD t), .dat (Pl.pD u), .no, .no] st (fnPost (O_fill T (st, ⟨B, k, j, f, p, t, u⟩)))
  rw [← ey]
  have yB : y.B = B := by rw [ey]
  have yj : y.j = j := by rw [ey]
  have okE : y.ok = (onS B p.1 p.2 && (onS B t.1 t.2 && (onS B u.1 u.2 && (areaP t.1 t.2 u.1 u.2).all fun q => refsOn B (sh (q.1 - p.1) (q.2 - p.2) (f p))))) := by rw [ey]; rfl
  have gE : y.g = fun q => if q ∈ areaP t.1 t.2 u.1 u.2 then sh (q.1 - p.1) (q.2 - p.2) (f p) else f q := by rw [ey]; rfl
  let ps3 : List QQ := [p, t, u]
  have bad3 : ∀ q ∈ ps3, onS B q.1 q.2 = false → y.ok = false := fun q hq h => by
    rw [okE]
    rcases List.mem_cons.mp hq with rfl | hq
    · rw [h]; rfl
    rcases List.mem_cons.mp hq with rfl | hq
    · rw [h]; simp
    rcases List.mem_cons.mp hq with rfl | hq
    · rw [h]; simp
    · cases hq
  apply w_seq
  refine w_forN (xs := ps3.map fun q => .dat (Pl.pD q)) (ei_tup (ds := [Pl.pD p, Pl.pD t, Pl.pD u]) (ev_tup (ds := [Pl.pD p, Pl.pD t, Pl.pD u]) (ed_cons (ev_var rfl) (ed_cons (ev_var rfl) (ed_cons (ev_var rfl) ed_nil))) (Nat.le_of_ble_eq_true rfl))) (fun i e s => s = st ∧ (ps3.take i).all (fun q => onS B q.1 q.2) = true ∧ ∃ x, e = [.ob k, .dat (Pl.pD p), .dat (Pl.pD t), .dat (Pl.pD u), x, .no]) ⟨rfl, rfl, _, rfl⟩ (fun _ _ _ _ => True.intro) ?_ ?_
  · rintro i x e s hx ⟨rfl, hall, x4, rfl⟩
    rw [List.getElem?_map] at hx
    obtain ⟨q, hq, rfl⟩ := Option.map_eq_some_iff.mp hx
    cases hon : onS B q.1 q.2 with
    | false => exact w_dropX (ex_x (C' := T.c_OffSheet) (⟨B, k, j, ⟨q.1, q.2, []⟩⟩ : Ro) (ev_var rfl) hs.s rfl (ea_cons (ev_var rfl) ea_nil) rfl hs.s (off_exc T hon k j)) (fill_exc T hok (bad3 q (List.mem_of_getElem? hq) hon))
    | true =>
      refine w_drop (em_x (r := .dat .none) (⟨B, k, j, ⟨q.1, q.2, []⟩⟩ : Ro) (ev_var rfl) hs.s rfl (ea_cons (ev_var rfl) ea_nil) rfl hs.s (off_ret T hon k j)) ⟨rfl, ?_, _, rfl⟩
      rw [List.take_add_one, hq, List.all_append, hall]
      show (true && (onS B q.1 q.2 && true)) = true
      rw [hon]
      rfl
  rintro e s ⟨rfl, hall, x4, rfl⟩
  have hall : (onS B p.1 p.2 && (onS B t.1 t.2 && (onS B u.1 u.2 && true))) = true := hall
  rw [Bool.and_eq_true, Bool.and_eq_true, Bool.and_eq_true] at hall
  obtain ⟨hp, ht, hu, _⟩ := hall
  have okE2 : y.ok = (areaP t.1 t.2 u.1 u.2).all fun q => refsOn B (sh (q.1 - p.1) (q.2 - p.2) (f p)) := by
    rw [okE, hp, ht, hu]
    rfl
  have hp' : B.has p.1 p.2 := (onS_iff z).mp hp
  have ht' : B.has t.1 t.2 := (onS_iff z).mp ht
  have hu' : B.has u.1 u.2 := (onS_iff z).mp hu
  have al : (areaP t.1 t.2 u.1 u.2).length ≤ 144 := Nat.le_trans (area_le ht' hu') (sz_area z)
  have and_ := area_nodup t.1 t.2 u.1 u.2
  have ain : ∀ q ∈ areaP t.1 t.2 u.1 u.2, B.has q.1 q.2 := fun q hq => by
    have m := mem_area.mp hq
    unfold Bx.has at ht' hu' ⊢
    omega
  have hc : ∀ q : QQ, preC T s ⟨B, k, j, f, p, q, q⟩ := fun q => ⟨z, hs, hp', hz p hp'⟩
  generalize hA : areaP t.1 t.2 u.1 u.2 = as at *
  apply w_seq
  cases hall : as.all (fun q => refsOn B (sh (q.1 - p.1) (q.2 - p.2) (f p))) with
  | false =>
    obtain ⟨n, b, hb, hbad, hgood⟩ := first_bad _ as hall
    refine w_asgX (ex_dc (as := as) (enc := fun q => .dat (Pl.pD q)) (b := b) (n := n) (fun q => q) (fun q => (sh (q.1 - p.1) (q.2 - p.2) (f p)).d) (ei_pl (ps := as) (ev_is (fc_area (a := ⟨t.1, t.2, []⟩) (b := ⟨u.1, u.2, []⟩) (ea_cons (ev_var rfl) (ea_cons (ev_var rfl) ea_nil)) (by show (areaP t.1 t.2 u.1 u.2).length ≤ _; rw [hA]; omega)) (by show dats (plD (areaP t.1 t.2 u.1 u.2)) = _; rw [hA]))) True.intro (by omega) (Pu.wipe_set (by decide)) (fun _ _ => ev_var rfl) (fun i a hi ha => em_copyX T ⟨B, k, j, f, p, a, a⟩ (ev_var rfl) hs (ea_cons (ev_var rfl) (ea_cons (ev_var rfl) ea_nil)) (hc a) (hgood i a hi ha)) hb (ex_copyX T ⟨B, k, j, f, p, b, b⟩ (ev_var rfl) hs (ea_cons (ev_var rfl) (ea_cons (ev_var rfl) ea_nil)) (hc b) hbad)) (fill_exc T hok (by rw [okE2]; exact hall))
  | true =>
    have okT : y.ok = true := by rw [okE2]; exact hall
    let c : QQ → Rl := fun q => sh (q.1 - p.1) (q.2 - p.2) (f p)
    let S1 : List Ob := s ++ [.dic (mT as c)]
    refine w_asg (x := .ob s.length) (st1 := S1) (ev_store (ev_is (ev_dc (as := as) (enc := fun q => .dat (Pl.pD q)) (fun q => q) (fun q => (sh (q.1 - p.1) (q.2 - p.2) (f p)).d) (ei_pl (ps := as) (ev_is (fc_area (a := ⟨t.1, t.2, []⟩) (b := ⟨u.1, u.2, []⟩) (ea_cons (ev_var rfl) (ea_cons (ev_var rfl) ea_nil)) (by show (areaP t.1 t.2 u.1 u.2).length ≤ _; rw [hA]; omega)) (by show dats (plD (areaP t.1 t.2 u.1 u.2)) = _; rw [hA]))) True.intro (by omega) (Pu.wipe_set (by decide)) (fun _ _ => ev_var rfl) (fun q hq => em_copyX T ⟨B, k, j, f, p, q, q⟩ (ev_var rfl) hs (ea_cons (ev_var rfl) (ea_cons (ev_var rfl) ea_nil)) (hc q) (List.all_eq_true.mp hall q hq))) (by rw [putAll_nodup (by rw [List.map_id']; exact and_)]; rfl))) ?_
    have gS : S1[s.length]? = some (.dic (mT as c)) := getE
    refine w_lock (k := s.length) gS fun od kvs => ?_
    have eF : S1.set s.length (.dicF od kvs (mT as c)) = s ++ [.dicF od kvs (mT as c)] := setE
    rw [eF]
    let fi : Nat → QQ → Rl := fun i q => if q ∈ as.take i then c q else f q
    let Si : Nat → List Ob := fun i => s.set j (.dic (mT (vB B) (fi i))) ++ [.dicF od kvs (mT as c)]
    have lset : ∀ i, (s.set j (.dic (mT (vB B) (fi i)))).length = s.length := fun i => List.length_set
    have gi : ∀ i, (Si i)[s.length]? = some (.dicF od kvs (mT as c)) := fun i => by
      have := getE (st := s.set j (.dic (mT (vB B) (fi i)))) (o := .dicF od kvs (mT as c))
      rwa [lset] at this
    have s0 : Si 0 = s ++ [.dicF od kvs (mT as c)] := by
      show s.set j (.dic (mT (vB B) (fi 0))) ++ _ = _
      have e0 : fi 0 = f := by
        funext q
        exact if_neg (fun z => nomatch z)
      rw [e0]
      congr 1
      have q := (List.getElem?_eq_some_iff.mp hs.d).2
      rw [← q, List.set_getElem_self]
    refine w_forN (ei_is (ei_keys (m := mT as c) (ev_var rfl) (by rw [← s0]; exact gi 0)) (by unfold mT; rw [List.map_map]; rfl)) (xs := as.map fun q => It.dat (Pl.pD q)) (fun i e s' => s' = Si i ∧ ∃ x, e = [.ob k, .dat (Pl.pD p), .dat (Pl.pD t), .dat (Pl.pD u), x, .ob s.length]) ⟨s0.symm, _, rfl⟩ (fun i _ _ h => by rw [h.1]; exact gi i) ?_ ?_
    · rintro i x e s' hx ⟨rfl, x5, rfl⟩
      rw [List.getElem?_map] at hx
      obtain ⟨q, hq, rfl⟩ := Option.map_eq_some_iff.mp hx
      have qm := List.mem_of_getElem? hq
      have hsi : Ss T.c_Sheet B k j (mT (vB B) (fi i)) (Si i) := Ss.app ⟨by rw [List.getElem?_set_ne hs.ne]; exact hs.s, by rw [List.getElem?_set_self jl]⟩
      refine w_dput (k := j) (p := q) (m := mT (vB B) (fi i)) (x := .dat (c q).d) (ev_dgetF (p := q) (ev_var rfl) (ev_var rfl) (gi i) (mT_look and_ qm)) (ev_fld (ev_var rfl) hsi.s rfl T.cl_Sheet T.n_Sheet_rules) (ev_var rfl) hsi.d (by rw [mT_len]; omega) ⟨?_, _, rfl⟩
      rw [mT_put ((vB_mem z).mpr (ain q qm))]
      show (s.set j _ ++ [_]).set j _ = s.set j _ ++ [_]
      rw [List.set_append_left _ _ (by rw [List.length_set]; exact jl), List.set_set]
      have e : upF (fi i) q (c q) = fi (i + 1) := by
        funext v
        show (if v = q then c q else if v ∈ as.take i then c v else f v) = if v ∈ as.take (i + 1) then c v else f v
        rw [take_snoc hq]
        by_cases h1 : v = q
        · subst h1
          rw [if_pos rfl, if_pos (List.mem_append_right _ (List.mem_singleton.mpr rfl))]
        · rw [if_neg h1]
          by_cases h2 : v ∈ as.take i
          · rw [if_pos h2, if_pos (List.mem_append_left _ h2)]
          · rw [if_neg h2, if_neg fun z => (List.mem_append.mp z).elim h2 fun z => h1 (List.mem_singleton.mp z)]
      rw [e]
    · rintro e s' ⟨rfl, x5, rfl⟩
      refine ⟨gi _, ?_⟩
      rw [List.length_map]
      have e2 : (Si as.length).set s.length (.dic (mT as c)) = s.set j (.dic (mT (vB B) (fi as.length))) ++ [.dic (mT as c)] := by
        have := setE (st := s.set j (.dic (mT (vB B) (fi as.length)))) (o := .dicF od kvs (mT as c)) (o' := .dic (mT as c))
        rwa [lset] at this
      rw [e2]
      have F := fill_ret T (ex := [.dic (mT as c)]) (x := y) hok okT
      rw [yB, yj, gE] at F
      have e3 : fi as.length = fun q => if q ∈ as then sh (q.1 - p.1) (q.2 - p.2) (f p) else f q := by
        funext q
        show (if q ∈ as.take as.length then _ else _) = _
        rw [List.take_length]
      rw [e3]
      exact F
end
end K06

namespace K06
open PySem PySem.Spec L2 Pr Pl Pv Pq
open Evl (Ex rLenS rMax2 rListS)
open PyProof.Rows (envOfC)
/-! own words of the walk -/
local macro_rules | `(tactic| walk_at "side") => `(tactic| first
  | rfl | exact Pu.at_m1 | exact Pu.at_m1' | exact Pu.at_m1'' | exact Pu.at_m2 | exact Pu.at_m2' | exact Pu.at_m3 | exact Pu.at0 | exact Pu.at1 | exact Pu.at2 | exact Pu.at3 | exact Pu.at4 | assumption | decide | omega | exact ⟨by decide, by decide⟩ | exact ⟨by omega, by omega⟩ | exact Or.inr ⟨by omega, by omega⟩ | exact Or.inl ⟨by omega, by omega⟩ | exact Or.inr ⟨by decide, by decide⟩)
local macro_rules | `(tactic| walk_at "ec") => `(tactic| fail)
local macro_rules | `(tactic| walk_at "tab") => `(tactic| assumption)
local macro_rules | `(tactic| walk_at "shape") => `(tactic| first | rfl | assumption)
local macro_rules | `(tactic| walk_at "e") => `(tactic| first
  | exact ev_int | exact ev_str | exact ev_bl | exact ev_non | exact ev_var rfl
  | (apply ev_ixT; (walk_at "e"); (walk_at "e"); (walk_at "side"))
  | (apply ev_ixL; (walk_at "e"); (walk_at "e"); (walk_at "side"))
  | (apply ev_ixO; (walk_at "e"); (walk_at "e"); (rfl); (walk_at "side"))
  | (apply ev_I0; (walk_at "e"); (walk_at "e"); (rfl))
  | (apply ev_I0b; (walk_at "e"); (walk_at "e"); (rfl))
  | (apply ev_I; (walk_at "e"); (walk_at "e"); (rfl); (walk_at "side"))
  | (apply ev_neg; (walk_at "e"); (rfl))
  | (apply ev_eqI; (walk_at "e"); (walk_at "e"))
  | (apply ev_eqS; (walk_at "e"); (walk_at "e"))
  | (apply ev_eqB; (walk_at "e"); (walk_at "e"))
  | (apply ev_neI; (walk_at "e"); (walk_at "e"))
  | (apply ev_neS; (walk_at "e"); (walk_at "e"))
  | (apply ev_eqD; (walk_at "e"); (walk_at "e"); (walk_at "shape"); (walk_at "shape"))
  | (apply ev_neD; (walk_at "e"); (walk_at "e"); (walk_at "shape"); (walk_at "shape"))
  | (apply ev_andV; (walk_at "e"); (intro _; walk_at "e"))
  | (apply ev_orV; (walk_at "e"); (intro _; walk_at "e"))
  | (apply ev_notV; (walk_at "e"))
  | (apply ev_tup; (walk_at "s"); (exact Nat.le_of_ble_eq_true rfl))
  | (apply ev_lst; (walk_at "a"); (exact Nat.le_of_ble_eq_true rfl))
  | (apply ev_slT; (walk_at "e"); (walk_at "o"); (walk_at "o"); (rfl))
  | (apply ev_slL; (walk_at "e"); (walk_at "o"); (walk_at "o"))
  | (apply ev_lenT; (walk_at "e"))
  | (apply ev_len; (walk_at "l"))
  | (apply ev_min2; (walk_at "e"); (walk_at "e"))
  | (apply ev_max2; (walk_at "e"); (walk_at "e"))
  | (apply ev_isi; (walk_at "e"); (first | exact Pu.kb_int_int | exact Pu.kb_int_bool | exact Pu.kb_int_str | exact Pu.kb_int_list | exact Pu.kb_int_tuple | exact Pu.kb_bool_int | exact Pu.kb_bool_bool | exact Pu.kb_bool_str | exact Pu.kb_bool_list | exact Pu.kb_bool_tuple | exact Pu.kb_str_int | exact Pu.kb_str_bool | exact Pu.kb_str_str | exact Pu.kb_str_list | exact Pu.kb_str_tuple | exact Pu.kb_list_int | exact Pu.kb_list_bool | exact Pu.kb_list_str | exact Pu.kb_list_list | exact Pu.kb_list_tuple | exact Pu.kb_tuple_int | exact Pu.kb_tuple_bool | exact Pu.kb_tuple_str | exact Pu.kb_tuple_list | exact Pu.kb_tuple_tuple | exact Pu.kb_NoneType_int | exact Pu.kb_NoneType_bool | exact Pu.kb_NoneType_str | exact Pu.kb_NoneType_list | exact Pu.kb_NoneType_tuple))
  | (apply ev_intB; (walk_at "e"))
  | (apply ev_isN; (walk_at "e"))
  | (apply ev_tupT; (walk_at "e"))
  | (apply ev_tupL; (walk_at "l"))
  | (apply ev_listT; (walk_at "e"))
  | (apply ev_listL; (walk_at "l"))
  | (apply ev_catL; (walk_at "e"); (walk_at "e"); (walk_at "side"))
  | walk_at "ec")
local macro_rules | `(tactic| walk_at "l") => `(tactic| first
  | (apply el_dat; (walk_at "e"))
  | (apply el_ob; (walk_at "e"); (rfl))
  | (apply el_fr; (walk_at "e")))
local macro_rules | `(tactic| walk_at "o") => `(tactic| first
  | exact eo_none
  | (apply eo_some; (walk_at "e")))
local macro_rules | `(tactic| walk_at "a") => `(tactic| first
  | exact ea_nil
  | (apply ea_cons; (walk_at "e"); (walk_at "a")))
local macro_rules | `(tactic| walk_at "s") => `(tactic| first
  | exact ed_nil
  | (apply ed_cons; (walk_at "e"); (walk_at "s")))
local macro_rules | `(tactic| walk_at "b") => `(tactic| first
  | exact eb_yes
  | (apply eb_test; (walk_at "e"))
  | (apply eb_B; (walk_at "e"))
  | (apply eb_truB; (walk_at "e"))
  | (apply eb_truL; (walk_at "l"))
  | (apply eb_truI; (walk_at "e"))
  | (apply eb_not; (walk_at "b"))
  | (apply eb_and; (walk_at "b"); (intro _; walk_at "b"))
  | (apply eb_or; (walk_at "b"); (intro _; walk_at "b")))
section
variable {P : Program} {w : World} {K : PySem.W.Frag} {mg : Str → Option Value} {base : Heap}
/-! ### corners -/
def corB (ns : List Int) (i : Nat) (h w : Int) (k : Nat) : QQ := (cell_atM ns (16 + 8 * i + k) % h, cell_atM ns (16 + 8 * i + 3 + k) % w)
def farL (h w : Int) : List QQ := [(h, 0), (0, w), (-1, 0), (0, -1), (0, 0 - 10 ^ (Int.toNat 20)), (10 ^ (Int.toNat 20), 0)]
def oddM (ns : List Int) (i : Nat) : Int := cell_atM ns (16 + 8 * i + 6)
def farM (ns : List Int) (i : Nat) (h w : Int) : QQ := (farL h w).getD (oddM ns i / 6 % 6).toNat (0, 0)
def cornM (ns : List Int) (i : Nat) (h w : Int) : List QQ :=
  let b := [corB ns i h w 0, corB ns i h w 1, corB ns i h w 2]
  if oddM ns i % 6 = 1 then b.set (oddM ns i / 36 % 3).toNat (farM ns i h w) else b
theorem cornM_len (ns : List Int) (i : Nat) (h w : Int) : (cornM ns i h w).length = 3 := by
  unfold cornM
  dsimp only
  split
  · rw [List.length_set]; rfl
  · rfl
abbrev ptsO (l : List QQ) : Ob := .lst (l.map fun q => Pv.It.dat (Pl.pD q))
theorem pts_dats (l : List QQ) {n : Nat} : okOb n (ptsO l) = true := by
  have e : ptsO l = .lst ((l.map Pl.pD).map Pv.It.dat) := by
    show Ob.lst _ = _
    rw [List.map_map]
    rfl
  rw [e]
  exact ok_dats
abbrev A_corners : List Int × Nat × Bx → List Pv.It := fun a => [.dat (.list (a.1.map PyData.int)), .dat (.int (a.2.1 : Nat)), .dat (.int a.2.2.h), .dat (.int a.2.2.w)]
abbrev sp__law_corners (K : PySem.W.Frag) : Sp := spQ (α := List Int × Nat × Bx) K A_corners (fun _ a => Sz a.2.2 ∧ a.2.1 < 100) (fun a => .fr (ptsO (cornM a.1 a.2.1 a.2.2.h a.2.2.w)))
theorem ok_corners (T : Top K mg w) : FnOk P w K mg base CX0 2 T.a__law_corners T.d__law_corners ["_law_script", "_law_turn", "_law_high", "_law_wide"] (sp__law_corners K) := by
  refine fn_q T.F__law_corners sc__law_corners (fun _ => rfl) fun cdv A outer s H E hr => ⟨_, B__law_corners T (ok_cell_at T) (by decide) hr, fun a st hp => ?_⟩
  obtain ⟨ns, i, B⟩ := a
  obtain ⟨z, hi⟩ : Sz B ∧ i < 100 := hp
  have hw : (0 : Int) < (B.w : Int) := by have := z.w0; omega
  have hh : (0 : Int) < (B.h : Int) := by have := z.h0; omega
  show Ws K _ _ [.dat (.list (ns.map PyData.int)), .dat (.int (i : Nat)), .dat (.int B.h), .dat (.int B.w), .no, .no, .no, .no, .no] st _
  have cl : ∀ {es : Es} {st : List Ob} {te : TE} {k : Int}, es[0]? = some (.dat (.list (ns.map PyData.int))) → Ev K te es st st (.dat (.int k)) → 0 ≤ k → Ev K (tCall (sp__law_cell_at K) [] E0 (tCons (tVar 0) (tCons te tNil))) es st st (.dat (.int (cell_atM ns k.toNat))) := fun h he h0 => ec_cell_at (ev_var h) he h0
  let en : Ent → Ent → Ent → Es := fun a b c => [.dat (.list (ns.map PyData.int)), .dat (.int (i : Nat)), .dat (.int B.h), .dat (.int B.w), .dat (.int (16 + 8 * (i : Int))), .ob st.length, a, b, c]
  apply w_seq
  refine w_asg (x := .dat (.int (16 + 8 * (i : Int)))) (ev_I0 ev_int (ev_I ev_int (ev_var rfl) rfl (.inl ⟨by omega, by omega⟩)) rfl) ?_
  apply w_seq
  refine w_asg (x := .ob st.length) (st1 := st ++ [ptsO []]) (ev_store (ev_lst ea_nil (Nat.zero_le _))) ?_
  apply w_seq
  let b3 : List QQ := [corB ns i B.h B.w 0, corB ns i B.h B.w 1, corB ns i B.h B.w 2]
  refine w_forR (n := 3) (ea_cons ev_int ea_nil) (by decide) (fun m e s => s = st ++ [ptsO (b3.take m)] ∧ ∃ x, e = en x .no .no) ⟨rfl, _, rfl⟩ ?_ ?_
  · rintro m e s hm ⟨rfl, x, rfl⟩
    have e1 : (16 + 8 * (i : Int) + (m : Nat)).toNat = 16 + 8 * i + m := by omega
    have e2 : (16 + 8 * (i : Int) + 3 + (m : Nat)).toNat = 16 + 8 * i + 3 + m := by omega
    refine w_append (k := st.length) (xs := (b3.take m).map fun q => .dat (Pl.pD q)) (x := .dat (Pl.pD (corB ns i B.h B.w m))) (ev_var rfl) ⟨_, getE⟩ (ev_is (ev_tup (ds := [.int (cell_atM ns (16 + 8 * (i : Int) + (m : Nat)).toNat % (B.h : Int)), .int (cell_atM ns (16 + 8 * (i : Int) + 3 + (m : Nat)).toNat % (B.w : Int))]) (ed_cons (ev_I (cl rfl (ev_I0 (ev_var rfl) (ev_var rfl) rfl) (by omega)) (ev_var rfl) rfl hh) (ed_cons (ev_I (cl rfl (ev_I0 (ev_I0 (ev_var rfl) ev_int rfl) (ev_var rfl) rfl) (by omega)) (ev_var rfl) rfl hw) ed_nil)) (Nat.le_of_ble_eq_true rfl)) (by rw [e1, e2]; rfl)) getE ?_ ⟨?_, _, rfl⟩
    · rw [List.length_map]
      exact Nat.lt_of_le_of_lt (List.length_take_le' _ _) (show b3.length < 100000 from Nat.lt_of_lt_of_le (show (3 : Nat) < 4 by decide) (by decide))
    · rw [setE]
      have eb : b3[m]? = some (corB ns i B.h B.w m) := by
        rcases m with _ | _ | _ | m
        · rfl
        · rfl
        · rfl
        · omega
      rw [take_snoc eb]
      show _ = st ++ [Ob.lst _]
      rw [List.map_append]
      rfl
  rintro e s ⟨rfl, x, rfl⟩
  have t3 : b3.take 3 = b3 := rfl
  rw [t3]
  have e6 : (16 + 8 * (i : Int) + 6).toNat = 16 + 8 * i + 6 := by omega
  apply w_seq
  refine w_asg (x := .dat (.int (oddM ns i))) (ev_is (cl rfl (ev_I0 (ev_var rfl) ev_int rfl) (by omega)) (by rw [e6]; rfl)) ?_
  refine w_seqI (fun e s => s = st ++ [ptsO (cornM ns i B.h B.w)] ∧ ∃ a b c, e = en a b c) ?_ ?_
  · unfold cornM
    dsimp only
    have f0 := Int.emod_nonneg (oddM ns i / 6) (show (6 : Int) ≠ 0 by decide)
    have f1 := Int.emod_lt_of_pos (oddM ns i / 6) (show (0 : Int) < 6 by decide)
    have g0 := Int.emod_nonneg (oddM ns i / 36) (show (3 : Int) ≠ 0 by decide)
    have g1 := Int.emod_lt_of_pos (oddM ns i / 36) (show (0 : Int) < 3 by decide)
    refine w_if (eb_test (ev_eqI (ev_I (ev_var rfl) ev_int rfl (by decide)) ev_int)) (fun hb => ?_) (fun hb => w_next ⟨?_, _, _, _, rfl⟩)
    · rw [if_pos (of_decide_eq_true hb)]
      apply w_seq
      refine w_asg (x := .dat (Pl.pD (farM ns i B.h B.w))) (ev_ixL (ev_share (ds := List.map Pl.pD (farL B.h B.w)) (ev_lst (xs := List.map It.dat (List.map Pl.pD (farL B.h B.w))) (ea_cons (ev_tup (ds := [.int (B.h : Int), .int 0]) (ed_cons (ev_var rfl) (ed_cons ev_int ed_nil)) (Nat.le_of_ble_eq_true rfl)) (ea_cons (ev_tup (ds := [.int 0, .int (B.w : Int)]) (ed_cons ev_int (ed_cons (ev_var rfl) ed_nil)) (Nat.le_of_ble_eq_true rfl)) (ea_cons (ev_tup (ds := [.int (-1), .int 0]) (ed_cons (ev_neg ev_int rfl) (ed_cons ev_int ed_nil)) (Nat.le_of_ble_eq_true rfl)) (ea_cons (ev_tup (ds := [.int 0, .int (-1)]) (ed_cons ev_int (ed_cons (ev_neg ev_int rfl) ed_nil)) (Nat.le_of_ble_eq_true rfl)) (ea_cons (ev_tup (ds := [.int 0, .int (0 - 10 ^ (Int.toNat 20))]) (ed_cons ev_int (ed_cons (ev_I0 ev_int (ev_I (C := CPow) ev_int ev_int rfl ⟨by decide, by decide, by decide⟩) rfl) ed_nil)) (Nat.le_of_ble_eq_true rfl)) (ea_cons (ev_tup (ds := [.int (10 ^ (Int.toNat 20)), .int 0]) (ed_cons (ev_I (C := CPow) ev_int ev_int rfl ⟨by decide, by decide, by decide⟩) (ed_cons ev_int ed_nil)) (Nat.le_of_ble_eq_true rfl)) ea_nil)))))) (Nat.le_of_ble_eq_true rfl))) (ev_I (ev_I (ev_var rfl) ev_int rfl ⟨by decide, by decide⟩) ev_int rfl (by decide)) (at_lit ⟨f0, f1⟩)) ?_
      refine w_setL (k := st.length) (n := (oddM ns i / 36 % 3).toNat) (z := oddM ns i / 36 % 3) (xs := b3.map fun q => .dat (Pl.pD q)) (x := .dat (Pl.pD (farM ns i B.h B.w))) (ev_var rfl) (ev_var rfl) (ev_I (ev_I (ev_var rfl) ev_int rfl ⟨by decide, by decide⟩) ev_int rfl (by decide)) getE ?_ ⟨?_, _, _, _, rfl⟩
      · unfold ixN
        rw [if_pos g0, if_pos (by rw [List.length_map]; show _ < ((3 : Nat) : Int); omega)]
      · rw [setE]
        show st ++ [Ob.lst _] = st ++ [Ob.lst _]
        rw [List.map_set]
    · rw [if_neg (of_decide_eq_false hb)]
  rintro e s ⟨rfl, a, b, c, rfl⟩
  exact w_ret (ev_var rfl) ⟨_, rfl, .inr ⟨st.length, _, rfl, Nat.le_refl _, getE, rfl, pts_dats _, fun h => nomatch h⟩⟩

/-! ### the least and the greatest of two -/
theorem dqa_ints {K : PySem.W.Frag} {G : Hp} : ∀ {ns : List Int} {vs : List V}, DqAll K G vs (ns.map PyData.int) → vs = ns.map V.int
  | [], _, h => by cases h; rfl
  | n :: ns, _, h => by
    cases h with
    | cons a b => rw [dq_int a, dqa_ints b]; rfl
theorem ev_minD {K : PySem.W.Frag} {es : Es} {st st1 : List Ob} {ta : TE} {a b : Int} (ha : Ev K ta es st st1 (.dat (.list [.int a, .int b]))) : Ev K (tCB (rMin K) (tCons ta tNil)) es st st1 (.dat (.int (min a b))) := ev_cb1 ha fun v G H ρ e hv Q q => by
  obtain ⟨p, vs, rfl, hs, hd⟩ := dq_lst hv
  have ev : vs = [a, b].map V.int := dqa_ints hd
  rw [ev] at hs
  refine ⟨p, [a, b], rfl, Evl.ex_l e hs, Nat.succ_pos _, fun k hk hk' => ?_⟩
  have e1 := hk' a (List.mem_cons_self)
  have e2 := hk' b (List.mem_cons_of_mem _ List.mem_cons_self)
  have ek : k = min a b := by
    have hk2 : k = a ∨ k = b := by simpa using hk
    rcases hk2 with h | h <;> omega
  rw [ek]
  exact q _ fun _ => Dq.int _
theorem ev_maxD {K : PySem.W.Frag} {es : Es} {st st1 : List Ob} {ta : TE} {a b : Int} (ha : Ev K ta es st st1 (.dat (.list [.int a, .int b]))) : Ev K (tCB (rMax K) (tCons ta tNil)) es st st1 (.dat (.int (max a b))) := ev_cb1 ha fun v G H ρ e hv Q q => by
  obtain ⟨p, vs, rfl, hs, hd⟩ := dq_lst hv
  have ev : vs = [a, b].map V.int := dqa_ints hd
  rw [ev] at hs
  refine ⟨p, [a, b], rfl, Evl.ex_l e hs, Nat.succ_pos _, fun k hk hk' => ?_⟩
  have e1 := hk' a (List.mem_cons_self)
  have e2 := hk' b (List.mem_cons_of_mem _ List.mem_cons_self)
  have ek : k = max a b := by
    have hk2 : k = a ∨ k = b := by simpa using hk
    rcases hk2 with h | h <;> omega
  rw [ek]
  exact q _ fun _ => Dq.int _
end
end K06

namespace K06
open PySem PySem.Spec L2 Pr Pl Pv Pq
open Evl (Ex rLenS rMax2 rListS)
open PyProof.Rows (envOfC)
/-! own words of the walk -/
local macro_rules | `(tactic| walk_at "side") => `(tactic| first
  | rfl | exact Pu.at_m1 | exact Pu.at_m1' | exact Pu.at_m1'' | exact Pu.at_m2 | exact Pu.at_m2' | exact Pu.at_m3 | exact Pu.at0 | exact Pu.at1 | exact Pu.at2 | exact Pu.at3 | exact Pu.at4 | assumption | decide | omega | exact ⟨by decide, by decide⟩ | exact ⟨by omega, by omega⟩ | exact Or.inr ⟨by omega, by omega⟩ | exact Or.inl ⟨by omega, by omega⟩ | exact Or.inr ⟨by decide, by decide⟩)
local macro_rules | `(tactic| walk_at "ec") => `(tactic| fail)
local macro_rules | `(tactic| walk_at "tab") => `(tactic| assumption)
local macro_rules | `(tactic| walk_at "shape") => `(tactic| first | rfl | assumption)
local macro_rules | `(tactic| walk_at "e") => `(tactic| first
  | exact ev_int | exact ev_str | exact ev_bl | exact ev_non | exact ev_var rfl
  | (apply ev_ixT; (walk_at "e"); (walk_at "e"); (walk_at "side"))
  | (apply ev_ixL; (walk_at "e"); (walk_at "e"); (walk_at "side"))
  | (apply ev_ixO; (walk_at "e"); (walk_at "e"); (rfl); (walk_at "side"))
  | (apply ev_I0; (walk_at "e"); (walk_at "e"); (rfl))
  | (apply ev_I0b; (walk_at "e"); (walk_at "e"); (rfl))
  | (apply ev_I; (walk_at "e"); (walk_at "e"); (rfl); (walk_at "side"))
  | (apply ev_neg; (walk_at "e"); (rfl))
  | (apply ev_eqI; (walk_at "e"); (walk_at "e"))
  | (apply ev_eqS; (walk_at "e"); (walk_at "e"))
  | (apply ev_eqB; (walk_at "e"); (walk_at "e"))
  | (apply ev_neI; (walk_at "e"); (walk_at "e"))
  | (apply ev_neS; (walk_at "e"); (walk_at "e"))
  | (apply ev_eqD; (walk_at "e"); (walk_at "e"); (walk_at "shape"); (walk_at "shape"))
  | (apply ev_neD; (walk_at "e"); (walk_at "e"); (walk_at "shape"); (walk_at "shape"))
  | (apply ev_andV; (walk_at "e"); (intro _; walk_at "e"))
  | (apply ev_orV; (walk_at "e"); (intro _; walk_at "e"))
  | (apply ev_notV; (walk_at "e"))
  | (apply ev_tup; (walk_at "s"); (exact Nat.le_of_ble_eq_true rfl))
  | (apply ev_lst; (walk_at "a"); (exact Nat.le_of_ble_eq_true rfl))
  | (apply ev_slT; (walk_at "e"); (walk_at "o"); (walk_at "o"); (rfl))
  | (apply ev_slL; (walk_at "e"); (walk_at "o"); (walk_at "o"))
  | (apply ev_lenT; (walk_at "e"))
  | (apply ev_len; (walk_at "l"))
  | (apply ev_min2; (walk_at "e"); (walk_at "e"))
  | (apply ev_max2; (walk_at "e"); (walk_at "e"))
  | (apply ev_isi; (walk_at "e"); (first | exact Pu.kb_int_int | exact Pu.kb_int_bool | exact Pu.kb_int_str | exact Pu.kb_int_list | exact Pu.kb_int_tuple | exact Pu.kb_bool_int | exact Pu.kb_bool_bool | exact Pu.kb_bool_str | exact Pu.kb_bool_list | exact Pu.kb_bool_tuple | exact Pu.kb_str_int | exact Pu.kb_str_bool | exact Pu.kb_str_str | exact Pu.kb_str_list | exact Pu.kb_str_tuple | exact Pu.kb_list_int | exact Pu.kb_list_bool | exact Pu.kb_list_str | exact Pu.kb_list_list | exact Pu.kb_list_tuple | exact Pu.kb_tuple_int | exact Pu.kb_tuple_bool | exact Pu.kb_tuple_str | exact Pu.kb_tuple_list | exact Pu.kb_tuple_tuple | exact Pu.kb_NoneType_int | exact Pu.kb_NoneType_bool | exact Pu.kb_NoneType_str | exact Pu.kb_NoneType_list | exact Pu.kb_NoneType_tuple))
  | (apply ev_intB; (walk_at "e"))
  | (apply ev_isN; (walk_at "e"))
  | (apply ev_tupT; (walk_at "e"))
  | (apply ev_tupL; (walk_at "l"))
  | (apply ev_listT; (walk_at "e"))
  | (apply ev_listL; (walk_at "l"))
  | (apply ev_catL; (walk_at "e"); (walk_at "e"); (walk_at "side"))
  | walk_at "ec")
local macro_rules | `(tactic| walk_at "l") => `(tactic| first
  | (apply el_dat; (walk_at "e"))
  | (apply el_ob; (walk_at "e"); (rfl))
  | (apply el_fr; (walk_at "e")))
local macro_rules | `(tactic| walk_at "o") => `(tactic| first
  | exact eo_none
  | (apply eo_some; (walk_at "e")))
local macro_rules | `(tactic| walk_at "a") => `(tactic| first
  | exact ea_nil
  | (apply ea_cons; (walk_at "e"); (walk_at "a")))
local macro_rules | `(tactic| walk_at "s") => `(tactic| first
  | exact ed_nil
  | (apply ed_cons; (walk_at "e"); (walk_at "s")))
local macro_rules | `(tactic| walk_at "b") => `(tactic| first
  | exact eb_yes
  | (apply eb_test; (walk_at "e"))
  | (apply eb_B; (walk_at "e"))
  | (apply eb_truB; (walk_at "e"))
  | (apply eb_truL; (walk_at "l"))
  | (apply eb_truI; (walk_at "e"))
  | (apply eb_not; (walk_at "b"))
  | (apply eb_and; (walk_at "b"); (intro _; walk_at "b"))
  | (apply eb_or; (walk_at "b"); (intro _; walk_at "b")))
section
variable {P : Program} {w : World} {K : PySem.W.Frag} {mg : Str → Option Value} {base : Heap}
/-! ### what is due; whether a sheet holds it -/
/-- a copy's corners -/
def cor3 (x : Cp) : List QQ := [x.s, x.t, x.u]
def DueR (x : Cp) : Rv := if x.ok then .fr (.dic (mT (PL x.B) x.g)) else .dat .none
abbrev A_due : Cp → List Pv.It := fun x => [.ob x.k, .ob x.j, .dat (.int x.B.h), .dat (.int x.B.w)]
abbrev preU (st : List Ob) (x : Cp) : Prop := Sz x.B ∧ st[x.k]? = some (.dic (mT (PL x.B) x.f)) ∧ st[x.j]? = some (ptsO (cor3 x)) ∧ ∀ q : QQ, x.B.has q.1 q.2 → dp (x.f q) ≤ 8
abbrev sp__law_due (K : PySem.W.Frag) : Sp := spQ (α := Cp) K A_due preU DueR
theorem mT_congr {V : List QQ} {f g : QQ → Rl} (h : ∀ p ∈ V, f p = g p) : mT V f = mT V g := List.map_congr_left fun p hp => by rw [h p hp]
theorem in_area {t u q : QQ} : q ∈ areaP t.1 t.2 u.1 u.2 ↔ ((min t.1 u.1 ≤ q.1 ∧ q.1 ≤ max t.1 u.1) ∧ min t.2 u.2 ≤ q.2 ∧ q.2 ≤ max t.2 u.2) := by
  obtain ⟨a, b⟩ := q
  rw [mem_area]
theorem ok_due (T : Top K mg w) : FnOk P w K mg base CX0 20 T.a__law_due T.d__law_due ["_law_kept", "_law_corners_here", "_law_high", "_law_wide"] (sp__law_due K) := by
  refine fn_q T.F__law_due sc__law_due (fun _ => rfl) fun cdv A outer s H E hr => ⟨_, B__law_due T (ok_lies T 12) (by decide) (ok_lmoved T 12) (by decide) (ok_on T) (by decide) hr, fun x st hp => ?_⟩
  obtain ⟨y, ey⟩ : ∃ y : Cp, y = x := ⟨x, rfl⟩
  obtain ⟨B, k, j, f, p, t, u⟩ := x
  obtain ⟨z, hk, hj, hd⟩ : Sz B ∧ st[k]? = some (.dic (mT (PL B) f)) ∧ st[j]? = some (ptsO [p, t, u]) ∧ ∀ q : QQ, B.has q.1 q.2 → dp (f q) ≤ 8 := hp
  have pd := PL_dup z
  have few : (PL B).length ≤ 144 := by rw [PL_len]; exact sz_area z
  show Ws K _ _ [.ob k, .ob j, .dat (.int B.h), .dat (.int B.w), .no, .no, .no, .no, .no, .no] st (postP st (DueR ⟨B, k, j, f, p, t, u⟩))
  rw [← ey]
  have okE : y.ok = (onS B p.1 p.2 && (onS B t.1 t.2 && (onS B u.1 u.2 && (areaP t.1 t.2 u.1 u.2).all fun q => refsOn B (sh (q.1 - p.1) (q.2 - p.2) (f p))))) := by rw [ey]; rfl
  have gE : y.g = fun q => if q ∈ areaP t.1 t.2 u.1 u.2 then sh (q.1 - p.1) (q.2 - p.2) (f p) else f q := by rw [ey]; rfl
  have yB : y.B = B := by rw [ey]
  have none_ : ∀ {ex : List Ob}, y.ok = false → EndP st (DueR y) (.dat .none) (st ++ ex) := fun {ex} h => by
    unfold DueR
    rw [if_neg (by rw [h]; exact Bool.false_ne_true)]
    exact ⟨ex, rfl, .inl ⟨rfl, rfl⟩⟩
  let ps3 : List QQ := [p, t, u]
  have bad3 : ∀ q ∈ ps3, onS B q.1 q.2 = false → y.ok = false := fun q hq h => by
    rw [okE]
    rcases List.mem_cons.mp hq with rfl | hq
    · rw [h]; rfl
    rcases List.mem_cons.mp hq with rfl | hq
    · rw [h]; simp
    rcases List.mem_cons.mp hq with rfl | hq
    · rw [h]; simp
    · cases hq
  let en : Ent → Ent → Ent → Ent → Ent → Ent → Es := fun a b c d e f => [.ob k, .ob j, .dat (.int B.h), .dat (.int B.w), a, b, c, d, e, f]
  apply w_seq
  refine w_forN (xs := ps3.map fun q => .dat (Pl.pD q)) (ei_ob (ev_var rfl) hj) (fun i e s => s = st ∧ (ps3.take i).all (fun q => onS B q.1 q.2) = true ∧ ∃ x, e = en x .no .no .no .no .no) ⟨rfl, rfl, _, rfl⟩ (fun _ _ _ h => by rw [h.1]; exact hj) ?_ ?_
  · rintro i x e s hx ⟨rfl, hall, x4, rfl⟩
    rw [List.getElem?_map] at hx
    obtain ⟨q, hq, rfl⟩ := Option.map_eq_some_iff.mp hx
    refine w_if (eb_not (eb_B (ep_call (args := A_on) (q, B) (ea_cons (ev_var rfl) (ea_cons (ev_var rfl) (ea_cons (ev_var rfl) ea_nil))) True.intro))) (fun hb => ?_) (fun hb => w_next ⟨rfl, ?_, _, rfl⟩)
    · have hb : (!onS B q.1 q.2) = true := hb
      rw [Bool.not_eq_true'] at hb
      refine w_ret (r := .dat .none) ev_non ?_
      have F := none_ (ex := []) (bad3 q (List.mem_of_getElem? hq) hb)
      rw [List.append_nil] at F
      exact F
    · have hb : (!onS B q.1 q.2) = false := hb
      rw [Bool.not_eq_false'] at hb
      rw [List.take_add_one, hq, List.all_append, hall]
      show (true && (onS B q.1 q.2 && true)) = true
      rw [hb]
      rfl
  rintro e s ⟨rfl, hall, x4, rfl⟩
  have hall : (onS B p.1 p.2 && (onS B t.1 t.2 && (onS B u.1 u.2 && true))) = true := hall
  rw [Bool.and_eq_true, Bool.and_eq_true, Bool.and_eq_true] at hall
  obtain ⟨hp, ht, hu, _⟩ := hall
  have okE2 : y.ok = (areaP t.1 t.2 u.1 u.2).all fun q => refsOn B (sh (q.1 - p.1) (q.2 - p.2) (f p)) := by
    rw [okE, hp, ht, hu]
    rfl
  have hp' : B.has p.1 p.2 := (onS_iff z).mp hp
  have ht' : B.has t.1 t.2 := (onS_iff z).mp ht
  have hu' : B.has u.1 u.2 := (onS_iff z).mp hu
  have ain : ∀ q ∈ areaP t.1 t.2 u.1 u.2, B.has q.1 q.2 := fun q hq => by
    have m := in_area.mp hq
    unfold Bx.has at ht' hu' ⊢
    omega
  let c : QQ → Rl := fun q => sh (q.1 - p.1) (q.2 - p.2) (f p)
  let g : QQ → Rl := fun q => if q ∈ areaP t.1 t.2 u.1 u.2 then c q else f q
  have c12 : ∀ q, (c q).dep < 12 := fun q => by
    have a := dep_dp (c q)
    have b : dp (c q) = dp (f p) := sh_dp _ _ _
    have d := hd p hp'
    omega
  have f12 : (f p).dep < 12 := by
    have a := dep_dp (f p)
    have d := hd p hp'
    omega
  apply w_seq
  refine w_asg (x := .dat (Pl.pD p)) (ev_ixO (xs := ps3.map fun q => .dat (Pl.pD q)) (ev_var rfl) ev_int hj rfl) ?_
  apply w_seq
  refine w_asg (x := .dat (.list [.int t.1, .int u.1])) (ev_share (ds := [.int t.1, .int u.1]) (ev_lst (xs := [.dat (.int t.1), .dat (.int u.1)]) (ea_cons (ev_ixT (ds := [.int t.1, .int t.2]) (ev_ixO (xs := ps3.map fun q => .dat (Pl.pD q)) (x := .dat (Pl.pD t)) (ev_var rfl) ev_int hj rfl) ev_int Pu.at0) (ea_cons (ev_ixT (ds := [.int u.1, .int u.2]) (ev_ixO (xs := ps3.map fun q => .dat (Pl.pD q)) (x := .dat (Pl.pD u)) (ev_var rfl) ev_int hj rfl) ev_int Pu.at0) ea_nil)) (Nat.le_of_ble_eq_true rfl))) ?_
  apply w_seq
  refine w_asg (x := .dat (.list [.int t.2, .int u.2])) (ev_share (ds := [.int t.2, .int u.2]) (ev_lst (xs := [.dat (.int t.2), .dat (.int u.2)]) (ea_cons (ev_ixT (ds := [.int t.1, .int t.2]) (ev_ixO (xs := ps3.map fun q => .dat (Pl.pD q)) (x := .dat (Pl.pD t)) (ev_var rfl) ev_int hj rfl) ev_int Pu.at1) (ea_cons (ev_ixT (ds := [.int u.1, .int u.2]) (ev_ixO (xs := ps3.map fun q => .dat (Pl.pD q)) (x := .dat (Pl.pD u)) (ev_var rfl) ev_int hj rfl) ev_int Pu.at1) ea_nil)) (Nat.le_of_ble_eq_true rfl))) ?_
  apply w_seq
  refine w_asg (x := .ob s.length) (st1 := s ++ [.dic []]) (ev_store ev_dnew) ?_
  have kl := (List.getElem?_eq_some_iff.mp hk).1
  have gk : (s ++ [Ob.dic []])[k]? = some (.dic (mT (PL B) f)) := by rw [List.getElem?_append_left kl]; exact hk
  apply w_seq
  refine w_lock (k := k) gk fun od kvs => ?_
  let sF : List Ob := s.set k (.dicF od kvs (mT (PL B) f))
  have sFl : sF.length = s.length := List.length_set
  have eF : (s ++ [Ob.dic []]).set k (.dicF od kvs (mT (PL B) f)) = sF ++ [.dic []] := List.set_append_left _ _ kl
  rw [eF]
  let Si : Ob → List Ob := fun o => sF ++ [o]
  have gi : ∀ o, (Si o)[k]? = some (.dicF od kvs (mT (PL B) f)) := fun o => by
    rw [List.getElem?_append_left (by rw [sFl]; exact kl)]
    exact List.getElem?_set_self kl
  have gD : ∀ o, (Si o)[s.length]? = some o := fun o => by
    rw [← sFl]
    exact getE
  have sD : ∀ o o', (Si o).set s.length o' = Si o' := fun o o' => by
    rw [← sFl]
    exact setE
  have back : ∀ o, (Si o).set k (.dic (mT (PL B) f)) = s ++ [o] := fun o => by
    show (s.set k _ ++ [o]).set k _ = _
    rw [List.set_append_left _ _ (by rw [List.length_set]; exact kl), List.set_set]
    congr 1
    have q := (List.getElem?_eq_some_iff.mp hk).2
    rw [← q, List.set_getElem_self]
  let en2 : Ent → Ent → Es := fun a b => en a (.dat (Pl.pD p)) (.dat (.list [.int t.1, .int u.1])) (.dat (.list [.int t.2, .int u.2])) (.ob s.length) b
  refine w_forN (xs := (PL B).map fun q => It.dat (Pl.pD q)) (ei_is (ei_keys (m := mT (PL B) f) (ev_var rfl) (gi _)) (by unfold mT; rw [List.map_map]; rfl)) (fun i e s' => s' = Si (.dic (mT ((PL B).take i) g)) ∧ (∀ q ∈ (PL B).take i, q ∈ areaP t.1 t.2 u.1 u.2 → refsOn B (c q) = true) ∧ ∃ x y, e = en2 x y) ⟨rfl, fun q h => (nomatch h), _, _, rfl⟩ (fun i _ _ h => by rw [h.1]; exact gi _) ?_ ?_
  · rintro i x e s' hx ⟨rfl, hgood, x4, x9, rfl⟩
    rw [List.getElem?_map] at hx
    obtain ⟨q, hq, rfl⟩ := Option.map_eq_some_iff.mp hx
    have qm := List.mem_of_getElem? hq
    have qn := take_new pd hq
    have tl : ((PL B).take i).length ≤ 144 := Nat.le_trans (List.length_take_le' _ _) few
    have tl2 : ((PL B).take (i + 1)).length ≤ 144 := Nat.le_trans (List.length_take_le' _ _) few
    have qt : q ∈ (PL B).take (i + 1) := by
      rw [take_snoc hq]
      exact List.mem_append_right _ (List.mem_singleton.mpr rfl)
    let g0 : QQ → Rl := upF g q (f q)
    have m1 : putM (mT ((PL B).take i) g) q (.dat (f q).d) = mT ((PL B).take (i + 1)) g0 := by
      have e1 : mT ((PL B).take i) g = mT ((PL B).take i) g0 := mT_congr fun v hv => by
        show g v = if v = q then f q else g v
        rw [if_neg fun (e : v = q) => qn (e ▸ hv)]
      have e2 : f q = g0 q := (if_pos rfl).symm
      rw [e1, e2, mT_snoc qn, ← take_snoc hq]
    apply w_seq
    refine w_dput (k := s.length) (p := q) (m := mT ((PL B).take i) g) (x := .dat (f q).d) (ev_dgetF (p := q) (ev_var rfl) (ev_var rfl) (gi _) (mT_look pd qm)) (ev_var rfl) (ev_var rfl) (gD _) (by rw [mT_len]; omega) ?_
    rw [sD, m1]
    apply w_seq
    refine w_asg (x := .dat (.bool (decide (min t.1 u.1 ≤ q.1) && decide (q.1 ≤ max t.1 u.1)))) (ev_andV (ev_I0b (b := decide (min t.1 u.1 ≤ q.1)) (ev_minD (ev_var rfl)) (ev_ixT (ds := [.int q.1, .int q.2]) (ev_var rfl) ev_int Pu.at0) rfl) fun _ => ev_I0b (b := decide (q.1 ≤ max t.1 u.1)) (ev_ixT (ds := [.int q.1, .int q.2]) (ev_var rfl) ev_int Pu.at0) (ev_maxD (ev_var rfl)) rfl) ?_
    have cond : ((decide (min t.1 u.1 ≤ q.1) && decide (q.1 ≤ max t.1 u.1)) && (decide (min t.2 u.2 ≤ q.2) && decide (q.2 ≤ max t.2 u.2))) = decide (q ∈ areaP t.1 t.2 u.1 u.2) := by
      rw [Bool.eq_iff_iff]
      simp only [Bool.and_eq_true, decide_eq_true_eq]
      rw [in_area]
    refine w_if (b := decide (q ∈ areaP t.1 t.2 u.1 u.2)) (eb_is (eb_and (eb_truB (ev_var rfl)) fun _ => eb_and (eb_test (ev_I0b (b := decide (min t.2 u.2 ≤ q.2)) (ev_minD (ev_var rfl)) (ev_ixT (ds := [.int q.1, .int q.2]) (ev_var rfl) ev_int Pu.at1) rfl)) fun _ => eb_test (ev_I0b (b := decide (q.2 ≤ max t.2 u.2)) (ev_ixT (ds := [.int q.1, .int q.2]) (ev_var rfl) ev_int Pu.at1) (ev_maxD (ev_var rfl)) rfl)) cond) (fun hb => ?_) (fun hb => ?_)
    · have hb := of_decide_eq_true hb
      have gq : g q = c q := if_pos hb
      have m2 : putM (mT ((PL B).take (i + 1)) g0) q (.dat (c q).d) = mT ((PL B).take (i + 1)) g := by
        rw [mT_put qt]
        refine mT_congr fun v _ => ?_
        show (if v = q then c q else if v = q then f q else g v) = g v
        by_cases e : v = q
        · rw [if_pos e, e, gq]
        · rw [if_neg e, if_neg e]
      apply w_seq
      refine w_dput (k := s.length) (p := q) (m := mT ((PL B).take (i + 1)) g0) (x := .dat (c q).d) (fc_lmoved (r := f p) (ea_cons (ev_dgetF (p := p) (ev_var rfl) (ev_var rfl) (gi _) (mT_look pd ((PL_mem z).mpr hp'))) (ea_cons (ev_I0 (ev_ixT (ds := [.int q.1, .int q.2]) (ev_var rfl) ev_int Pu.at0) (ev_ixT (ds := [.int p.1, .int p.2]) (ev_var rfl) ev_int Pu.at0) rfl) (ea_cons (ev_I0 (ev_ixT (ds := [.int q.1, .int q.2]) (ev_var rfl) ev_int Pu.at1) (ev_ixT (ds := [.int p.1, .int p.2]) (ev_var rfl) ev_int Pu.at1) rfl) ea_nil))) f12) (ev_var rfl) (ev_var rfl) (gD _) (by rw [mT_len]; omega) ?_
      rw [sD, m2]
      have look : (mT ((PL B).take (i + 1)) g).lookup q = some (.dat (c q).d) := by
        rw [← gq]
        exact mT_look (pd.sublist (List.take_sublist _ _)) qt
      refine w_if (b := !refsOn B (c q)) (eb_not (eb_B (fc_lies (r := c q) (ea_cons (ev_dget (p := q) (ev_var rfl) (ev_var rfl) (gD _) look) (ea_cons (ev_var rfl) (ea_cons (ev_var rfl) ea_nil))) (c12 q)))) (fun hb2 => ?_) (fun hb2 => w_next ⟨rfl, ?_, _, _, rfl⟩)
      · rw [Bool.not_eq_true'] at hb2
        refine w_ret (r := .dat .none) ev_non ⟨gi _, ?_, _, rfl⟩
        rw [back]
        refine none_ ?_
        rw [okE2, List.all_eq_false]
        exact ⟨q, hb, by rw [hb2]; exact Bool.false_ne_true⟩
      · rw [Bool.not_eq_false'] at hb2
        intro v hv ha
        rw [take_snoc hq] at hv
        rcases List.mem_append.mp hv with hv | hv
        · exact hgood v hv ha
        · rw [List.mem_singleton.mp hv]
          exact hb2
    · have hb := of_decide_eq_false hb
      have e3 : mT ((PL B).take (i + 1)) g0 = mT ((PL B).take (i + 1)) g := mT_congr fun v _ => by
        show (if v = q then f q else g v) = g v
        by_cases e : v = q
        · rw [if_pos e, e]
          exact (if_neg hb).symm
        · rw [if_neg e]
      refine w_next ⟨by rw [e3], ?_, _, _, rfl⟩
      intro v hv ha
      rw [take_snoc hq] at hv
      rcases List.mem_append.mp hv with hv | hv
      · exact hgood v hv ha
      · rw [List.mem_singleton.mp hv] at ha
        exact absurd ha hb
  rintro e s' ⟨rfl, hgood, x4, x9, rfl⟩
  rw [List.length_map, List.take_length] at hgood
  refine ⟨gi _, ?_⟩
  rw [back, List.length_map, List.take_length]
  have okT : y.ok = true := by
    rw [okE2, List.all_eq_true]
    exact fun q hq => hgood q ((PL_mem z).mpr (ain q hq)) hq
  refine w_ret (ev_var rfl) ⟨_, rfl, .inr ⟨s.length, _, rfl, Nat.le_refl _, getE, ?_, mT_dats _ _, fun h => nomatch h⟩⟩
  unfold DueR
  rw [if_pos okT, yB, gE]
abbrev A_holds : Cp → List Pv.It := fun x => [.ob 0, .ob x.k]
abbrev preH (T : Top K mg w) (st : List Ob) (x : Cp) : Prop := Sz x.B ∧ Ss T.c_Sheet x.B 0 x.j (mT (vB x.B) x.f) st ∧ st[x.k]? = some (.dic (mT (PL x.B) x.f)) ∧ (x.k ≠ 0 ∧ x.k ≠ x.j) ∧ ∀ q : QQ, x.B.has q.1 q.2 → dp (x.f q) ≤ 8
abbrev sp__law_holds (T : Top K mg w) : Sp := spQ (α := Cp) K A_holds (preH T) (fun _ => .dat (.bool true))
theorem ok_holds (T : Top K mg w) : FnOk P w K mg base CX0 20 T.a__law_holds T.d__law_holds ["_law_sheet", "_law_kept"] (sp__law_holds T) := by
  refine fn_q T.F__law_holds sc__law_holds (fun _ => rfl) fun cdv A outer s H E hr => ⟨_, B__law_holds T (ok_rule T) (by decide) (ok_same T 12) (by decide) hr, fun x st hp => ?_⟩
  obtain ⟨B, k, j, f, p, t, u⟩ := x
  obtain ⟨z, hs, hk, ⟨nk, nj⟩, hd⟩ : Sz B ∧ Ss T.c_Sheet B 0 j (mT (vB B) f) st ∧ st[k]? = some (.dic (mT (PL B) f)) ∧ (k ≠ 0 ∧ k ≠ j) ∧ ∀ q : QQ, B.has q.1 q.2 → dp (f q) ≤ 8 := hp
  have pd := PL_dup z
  have kl := (List.getElem?_eq_some_iff.mp hk).1
  show Ws K _ _ [.ob 0, .ob k, .no] st _
  apply w_seq
  refine w_lock (k := k) hk fun od kvs => ?_
  let sF : List Ob := st.set k (.dicF od kvs (mT (PL B) f))
  have gF : sF[k]? = some (.dicF od kvs (mT (PL B) f)) := List.getElem?_set_self kl
  have back : sF.set k (.dic (mT (PL B) f)) = st := by
    show (st.set k _).set k _ = st
    rw [List.set_set]
    have q := (List.getElem?_eq_some_iff.mp hk).2
    rw [← q, List.set_getElem_self]
  have hF : Ss T.c_Sheet B 0 j (mT (vB B) f) sF := ⟨by rw [List.getElem?_set_ne nk]; exact hs.s, by rw [List.getElem?_set_ne nj]; exact hs.d⟩
  refine w_forN (xs := (PL B).map fun q => It.dat (Pl.pD q)) (ei_is (ei_keys (m := mT (PL B) f) (ev_var rfl) gF) (by unfold mT; rw [List.map_map]; rfl)) (fun i e s' => s' = sF ∧ ∃ x, e = [.ob 0, .ob k, x]) ⟨rfl, _, rfl⟩ (fun i _ _ h => by rw [h.1]; exact gF) ?_ ?_
  · rintro i x e s' hx ⟨rfl, x4, rfl⟩
    rw [List.getElem?_map] at hx
    obtain ⟨q, hq, rfl⟩ := Option.map_eq_some_iff.mp hx
    have qm := List.mem_of_getElem? hq
    have qB := (PL_mem z).mp qm
    have d12 : (f q).dep < 12 := by
      have a := dep_dp (f q)
      have d := hd q qB
      omega
    exact w_if (b := false) (eb_not (b := true) (eb_B (fc_same (r := f q) (ea_cons (em_x (r := .dat (f q).d) (⟨B, 0, j, mT (vB B) f, q, (f q).d⟩ : Rr) (ev_var rfl) hF.s rfl (ea_cons (ev_var rfl) ea_nil) rfl ⟨hF, (onS_iff z).mpr qB, mT_look (vB_dup B) ((vB_mem z).mpr qB)⟩ rfl) (ea_cons (ev_dgetF (p := q) (ev_var rfl) (ev_var rfl) gF (mT_look pd qm)) ea_nil)) d12))) (fun h => nomatch h) fun _ => w_next ⟨rfl, _, rfl⟩
  · rintro e s' ⟨rfl, x4, rfl⟩
    refine ⟨gF, ?_⟩
    rw [back]
    exact w_ret ev_bl endP
end
end K06

namespace K06
open PySem PySem.Spec L2 Pr Pl Pv Pq
open Evl (Ex rLenS rMax2 rListS)
open PyProof.Rows (envOfC)
/-! own words of the walk -/
local macro_rules | `(tactic| walk_at "side") => `(tactic| first
  | rfl | exact Pu.at_m1 | exact Pu.at_m1' | exact Pu.at_m1'' | exact Pu.at_m2 | exact Pu.at_m2' | exact Pu.at_m3 | exact Pu.at0 | exact Pu.at1 | exact Pu.at2 | exact Pu.at3 | exact Pu.at4 | assumption | decide | omega | exact ⟨by decide, by decide⟩ | exact ⟨by omega, by omega⟩ | exact Or.inr ⟨by omega, by omega⟩ | exact Or.inl ⟨by omega, by omega⟩ | exact Or.inr ⟨by decide, by decide⟩)
local macro_rules | `(tactic| walk_at "ec") => `(tactic| fail)
local macro_rules | `(tactic| walk_at "tab") => `(tactic| assumption)
local macro_rules | `(tactic| walk_at "shape") => `(tactic| first | rfl | assumption)
local macro_rules | `(tactic| walk_at "e") => `(tactic| first
  | exact ev_int | exact ev_str | exact ev_bl | exact ev_non | exact ev_var rfl
  | (apply ev_ixT; (walk_at "e"); (walk_at "e"); (walk_at "side"))
  | (apply ev_ixL; (walk_at "e"); (walk_at "e"); (walk_at "side"))
  | (apply ev_ixO; (walk_at "e"); (walk_at "e"); (rfl); (walk_at "side"))
  | (apply ev_I0; (walk_at "e"); (walk_at "e"); (rfl))
  | (apply ev_I0b; (walk_at "e"); (walk_at "e"); (rfl))
  | (apply ev_I; (walk_at "e"); (walk_at "e"); (rfl); (walk_at "side"))
  | (apply ev_neg; (walk_at "e"); (rfl))
  | (apply ev_eqI; (walk_at "e"); (walk_at "e"))
  | (apply ev_eqS; (walk_at "e"); (walk_at "e"))
  | (apply ev_eqB; (walk_at "e"); (walk_at "e"))
  | (apply ev_neI; (walk_at "e"); (walk_at "e"))
  | (apply ev_neS; (walk_at "e"); (walk_at "e"))
  | (apply ev_eqD; (walk_at "e"); (walk_at "e"); (walk_at "shape"); (walk_at "shape"))
  | (apply ev_neD; (walk_at "e"); (walk_at "e"); (walk_at "shape"); (walk_at "shape"))
  | (apply ev_andV; (walk_at "e"); (intro _; walk_at "e"))
  | (apply ev_orV; (walk_at "e"); (intro _; walk_at "e"))
  | (apply ev_notV; (walk_at "e"))
  | (apply ev_tup; (walk_at "s"); (exact Nat.le_of_ble_eq_true rfl))
  | (apply ev_lst; (walk_at "a"); (exact Nat.le_of_ble_eq_true rfl))
  | (apply ev_slT; (walk_at "e"); (walk_at "o"); (walk_at "o"); (rfl))
  | (apply ev_slL; (walk_at "e"); (walk_at "o"); (walk_at "o"))
  | (apply ev_lenT; (walk_at "e"))
  | (apply ev_len; (walk_at "l"))
  | (apply ev_min2; (walk_at "e"); (walk_at "e"))
  | (apply ev_max2; (walk_at "e"); (walk_at "e"))
  | (apply ev_isi; (walk_at "e"); (first | exact Pu.kb_int_int | exact Pu.kb_int_bool | exact Pu.kb_int_str | exact Pu.kb_int_list | exact Pu.kb_int_tuple | exact Pu.kb_bool_int | exact Pu.kb_bool_bool | exact Pu.kb_bool_str | exact Pu.kb_bool_list | exact Pu.kb_bool_tuple | exact Pu.kb_str_int | exact Pu.kb_str_bool | exact Pu.kb_str_str | exact Pu.kb_str_list | exact Pu.kb_str_tuple | exact Pu.kb_list_int | exact Pu.kb_list_bool | exact Pu.kb_list_str | exact Pu.kb_list_list | exact Pu.kb_list_tuple | exact Pu.kb_tuple_int | exact Pu.kb_tuple_bool | exact Pu.kb_tuple_str | exact Pu.kb_tuple_list | exact Pu.kb_tuple_tuple | exact Pu.kb_NoneType_int | exact Pu.kb_NoneType_bool | exact Pu.kb_NoneType_str | exact Pu.kb_NoneType_list | exact Pu.kb_NoneType_tuple))
  | (apply ev_intB; (walk_at "e"))
  | (apply ev_isN; (walk_at "e"))
  | (apply ev_tupT; (walk_at "e"))
  | (apply ev_tupL; (walk_at "l"))
  | (apply ev_listT; (walk_at "e"))
  | (apply ev_listL; (walk_at "l"))
  | (apply ev_catL; (walk_at "e"); (walk_at "e"); (walk_at "side"))
  | walk_at "ec")
local macro_rules | `(tactic| walk_at "l") => `(tactic| first
  | (apply el_dat; (walk_at "e"))
  | (apply el_ob; (walk_at "e"); (rfl))
  | (apply el_fr; (walk_at "e")))
local macro_rules | `(tactic| walk_at "o") => `(tactic| first
  | exact eo_none
  | (apply eo_some; (walk_at "e")))
local macro_rules | `(tactic| walk_at "a") => `(tactic| first
  | exact ea_nil
  | (apply ea_cons; (walk_at "e"); (walk_at "a")))
local macro_rules | `(tactic| walk_at "s") => `(tactic| first
  | exact ed_nil
  | (apply ed_cons; (walk_at "e"); (walk_at "s")))
local macro_rules | `(tactic| walk_at "b") => `(tactic| first
  | exact eb_yes
  | (apply eb_test; (walk_at "e"))
  | (apply eb_B; (walk_at "e"))
  | (apply eb_truB; (walk_at "e"))
  | (apply eb_truL; (walk_at "l"))
  | (apply eb_truI; (walk_at "e"))
  | (apply eb_not; (walk_at "b"))
  | (apply eb_and; (walk_at "b"); (intro _; walk_at "b"))
  | (apply eb_or; (walk_at "b"); (intro _; walk_at "b")))
section
variable {P : Program} {w : World} {K : PySem.W.Frag} {mg : Str → Option Value} {base : Heap}
/-! ### copies that are made in a try -/
theorem kit_no {K : PySem.W.Frag} {D C : Addr} (h : PySem.W.exmOne K (.ref D) (.ref C) = some false) (hs : PySem.W.exmOne K (.ref D) (.ref D) = some true) : PySem.W.kitOne K (.ref D) (.ref C) = some false := by
  have ne : D ≠ C := fun e => by
    rw [e, ← e, hs] at h
    cases h
  unfold PySem.W.exmOne at h
  split at h
  · unfold PySem.W.kitOne
    rw [if_neg (by simpa using ne)]
    exact h
  · cases h
theorem kit_two {K : PySem.W.Frag} {D C1 C2 : Addr} (h1 : PySem.W.kitOne K (.ref D) (.ref C1) = some false) (h2 : PySem.W.kitOne K (.ref D) (.ref C2) = some false) : PySem.W.kitAny K (.ref D) [.ref C1, .ref C2] = some false := by
  unfold PySem.W.kitAny
  rw [h1]
  show PySem.W.kitAny K (.ref D) [.ref C2] = some false
  unfold PySem.W.kitAny
  rw [h2]
  rfl
theorem ex_op {K : PySem.W.Frag} {W : WE} {es : Es} {st st1 : List Ob} {ta tb : TE} {rd : R2} {C : Addr} (h : ExC K W ta es st C st1) : ExC K W (tOp rd ta tb) es st C st1 := .mk fun {G H ρ σ} S T q {Q} => h.run S T q
structure Dn where
  x : Cp
  c : Nat
  al : Bool
def Dn.st (T : Top K mg w) (y : List Ob × Dn) : List Ob := if y.2.x.ok then y.1.set y.2.x.j (.dic (mT (vB y.2.x.B) y.2.x.g)) else y.1
abbrev A_done : Dn → List Pv.It := fun y => [.ob y.x.k, .ob y.c, .dat (.bool y.al)]
abbrev preN (T : Top K mg w) (st : List Ob) (y : Dn) : Prop := preF T (st, y.x) ∧ st[y.c]? = some (ptsO (cor3 y.x)) ∧ (y.al = true → y.x.u = y.x.t)
abbrev sp__law_done (T : Top K mg w) : Sp := spV (α := List Ob × Dn) K (fun y => A_done y.2) (fun y => preN T y.1 y.2) (fun y => y.1) (fun y => .ret (.dat (.bool y.2.x.ok)) (Dn.st T y))
theorem fill_ok (T : Top K mg w) {st : List Ob} {x : Cp} (h : x.ok = true) : O_fill T (st, x) = .ret (.dat .none) (st.set x.j (.dic (mT (vB x.B) x.g))) := by
  unfold O_fill
  exact if_pos h
theorem fill_no (T : Top K mg w) {st : List Ob} {x : Cp} (h : x.ok = false) : O_fill T (st, x) = .exc T.c_OffSheet st := by
  unfold O_fill
  exact if_neg (by rw [h]; exact Bool.false_ne_true)
theorem ok_done (T : Top K mg w) : FnOk P w K mg base CX0 9 T.a__law_done T.d__law_done ["_law_sheet", "_law_corners_here", "_law_alone"] (sp__law_done T) := by
  refine fn_v T.F__law_done sc__law_done (fun _ => rfl) (fun y _ => ?_) fun cdv A outer s H E hr => ⟨_, B__law_done T (ok_copied T) (by decide) (ok_filled T) (by decide) hr, fun y hp => ?_⟩
  · show y.1.length ≤ (Dn.st T y).length
    unfold Dn.st
    split
    · rw [List.length_set]
      exact Nat.le_refl _
    · exact Nat.le_refl _
  obtain ⟨st, x, c, al⟩ := y
  obtain ⟨hF, hc, hal⟩ : preF T (st, x) ∧ st[c]? = some (ptsO (cor3 x)) ∧ (al = true → x.u = x.t) := hp
  have hs : Ss T.c_Sheet x.B x.k x.j (mT (vB x.B) x.f) st := hF.2.1
  have hok : okSt st = true := hF.2.2.1
  show Ws K _ _ [.ob x.k, .ob c, .dat (.bool al)] st _
  have fin : ∀ {b : Bool} {s : List Ob}, s = Dn.st T (st, ⟨x, c, al⟩) → RetOk (.dat (.bool b)) s (.ret (.dat (.bool b)) (Dn.st T (st, ⟨x, c, al⟩))) := fun {b s} e2 => by
    rw [e2]
    refine ⟨[], (List.append_nil _).symm, ?_, .inl ⟨rfl, rfl⟩⟩
    unfold Dn.st
    split
    · exact okSt_set hok (mT_okn _ _ _)
    · exact hok
  have stT : x.ok = true → st.set x.j (.dic (mT (vB x.B) x.g)) = Dn.st T (st, ⟨x, c, al⟩) := fun h => by
    unfold Dn.st
    exact (if_pos h).symm
  have stF : x.ok = false → st = Dn.st T (st, ⟨x, c, al⟩) := fun h => by
    unfold Dn.st
    exact (if_neg (by show ¬ x.ok = true; rw [h]; exact Bool.false_ne_true)).symm
  let es0 : Es := [.ob x.k, .ob c, .dat (.bool al)]
  have a2 : EvA K (tCons (tOp (rIxL K) (tVar 1) (tC (.int 0))) (tCons (tOp (rIxL K) (tVar 1) (tC (.int 1))) tNil)) es0 st st [.dat (Pl.pD x.s), .dat (Pl.pD x.t)] := ea_cons (ev_ixO (xs := (cor3 x).map fun q => .dat (Pl.pD q)) (ev_var rfl) ev_int hc rfl) (ea_cons (ev_ixO (xs := (cor3 x).map fun q => .dat (Pl.pD q)) (ev_var rfl) ev_int hc rfl) ea_nil)
  have a3 : EvA K (tCons (tOp (rIxL K) (tVar 1) (tC (.int 0))) (tCons (tOp (rIxL K) (tVar 1) (tC (.int 1))) (tCons (tOp (rIxL K) (tVar 1) (tC (.int 2))) tNil))) es0 st st [.dat (Pl.pD x.s), .dat (Pl.pD x.t), .dat (Pl.pD x.u)] := ea_cons (ev_ixO (xs := (cor3 x).map fun q => .dat (Pl.pD q)) (ev_var rfl) ev_int hc rfl) (ea_cons (ev_ixO (xs := (cor3 x).map fun q => .dat (Pl.pD q)) (ev_var rfl) ev_int hc rfl) (ea_cons (ev_ixO (xs := (cor3 x).map fun q => .dat (Pl.pD q)) (ev_var rfl) ev_int hc rfl) ea_nil))
  refine w_try1 (tb := fun W' => tSeq (tIfS (Pu.tTru K (tVar 2)) (tRet (tOp (fun x y H Q => y = V.non ∧ Q (V.bl (decide (x = V.non))) H) (Pm.tMethT T.c_Sheet "copied" (sp_copied T) (L2.WE W') (tVar 0) (tCons (tOp (rIxL K) (tVar 1) (tC (.int 0))) (tCons (tOp (rIxL K) (tVar 1) (tC (.int 1))) tNil))) (tC V.non))) tNext) (tRet (tOp (fun x y H Q => y = V.non ∧ Q (V.bl (decide (x = V.non))) H) (Pm.tMethT T.c_Sheet "filled" (sp_filled T) (L2.WE W') (tVar 0) (tCons (tOp (rIxL K) (tVar 1) (tC (.int 0))) (tCons (tOp (rIxL K) (tVar 1) (tC (.int 1))) (tCons (tOp (rIxL K) (tVar 1) (tC (.int 2))) tNil)))) (tC V.non)))) fun W' => ?_
  cases hb : x.ok with
  | true =>
    apply w_seq
    refine w_if (b := al) (eb_truB (ev_var rfl)) (fun h => ?_) (fun h => w_next ?_)
    · exact w_ret (ev_isN (x := .dat .none) (ev_methT (st, x) (ev_var rfl) hs.s rfl a2 rfl ⟨hF, hal h⟩ (fill_ok T hb))) (fin (stT hb))
    · exact w_ret (ev_isN (x := .dat .none) (ev_methT (st, x) (ev_var rfl) hs.s rfl a3 rfl hF (fill_ok T hb))) (fin (stT hb))
  | false =>
    apply w_seq
    refine w_if (b := al) (eb_truB (ev_var rfl)) (fun h => ?_) (fun h => w_next ?_)
    · refine w_retX (ex_op (ex_methT (st, x) (ev_var rfl) hs.s rfl a2 rfl ⟨hF, hal h⟩ (fill_no T hb))) ⟨T.e_OffSheet_OffSheet, fun a => ?_⟩
      exact w_ret ev_bl (fin (stF hb))
    · refine w_retX (ex_op (ex_methT (st, x) (ev_var rfl) hs.s rfl a3 rfl hF (fill_no T hb))) ⟨T.e_OffSheet_OffSheet, fun a => ?_⟩
      exact w_ret ev_bl (fin (stF hb))
abbrev sp__law_refused_by_any (T : Top K mg w) : Sp := spQ (α := Dn) K A_done (fun st y => preN T st y ∧ y.x.ok = false) (fun _ => .dat (.bool true))
theorem ok_any (T : Top K mg w) : FnOk P w K mg base CX0 9 T.a__law_refused_by_any T.d__law_refused_by_any ["_law_sheet", "_law_corners_here", "_law_alone"] (sp__law_refused_by_any T) := by
  refine fn_q T.F__law_refused_by_any sc__law_refused_by_any (fun _ => rfl) fun cdv A outer s H E hr => ⟨_, B__law_refused_by_any T (ok_copied T) (by decide) (ok_filled T) (by decide) hr, fun y st hp => ?_⟩
  obtain ⟨x, c, al⟩ := y
  obtain ⟨⟨hF, hc, hal⟩, hb⟩ : (preF T (st, x) ∧ st[c]? = some (ptsO (cor3 x)) ∧ (al = true → x.u = x.t)) ∧ x.ok = false := hp
  have hs : Ss T.c_Sheet x.B x.k x.j (mT (vB x.B) x.f) st := hF.2.1
  show Ws K _ _ [.ob x.k, .ob c, .dat (.bool al), .no] st _
  let es0 : Es := [.ob x.k, .ob c, .dat (.bool al), .no]
  have a2 : EvA K (tCons (tOp (rIxL K) (tVar 1) (tC (.int 0))) (tCons (tOp (rIxL K) (tVar 1) (tC (.int 1))) tNil)) es0 st st [.dat (Pl.pD x.s), .dat (Pl.pD x.t)] := ea_cons (ev_ixO (xs := (cor3 x).map fun q => .dat (Pl.pD q)) (ev_var rfl) ev_int hc rfl) (ea_cons (ev_ixO (xs := (cor3 x).map fun q => .dat (Pl.pD q)) (ev_var rfl) ev_int hc rfl) ea_nil)
  have a3 : EvA K (tCons (tOp (rIxL K) (tVar 1) (tC (.int 0))) (tCons (tOp (rIxL K) (tVar 1) (tC (.int 1))) (tCons (tOp (rIxL K) (tVar 1) (tC (.int 2))) tNil))) es0 st st [.dat (Pl.pD x.s), .dat (Pl.pD x.t), .dat (Pl.pD x.u)] := ea_cons (ev_ixO (xs := (cor3 x).map fun q => .dat (Pl.pD q)) (ev_var rfl) ev_int hc rfl) (ea_cons (ev_ixO (xs := (cor3 x).map fun q => .dat (Pl.pD q)) (ev_var rfl) ev_int hc rfl) (ea_cons (ev_ixO (xs := (cor3 x).map fun q => .dat (Pl.pD q)) (ev_var rfl) ev_int hc rfl) ea_nil))
  have any2 := kit_two (kit_no T.e_OffSheet_BadSize T.e_OffSheet_OffSheet) (kit_no T.e_OffSheet_TooDeep T.e_OffSheet_OffSheet)
  apply w_seq
  refine w_tryIs2 (tb := fun W' => tIfS (Pu.tTru K (tVar 2)) (tDrop (Pm.tMethT T.c_Sheet "copied" (sp_copied T) (L2.WE W') (tVar 0) (tCons (tOp (rIxL K) (tVar 1) (tC (.int 0))) (tCons (tOp (rIxL K) (tVar 1) (tC (.int 1))) tNil)))) (tDrop (Pm.tMethT T.c_Sheet "filled" (sp_filled T) (L2.WE W') (tVar 0) (tCons (tOp (rIxL K) (tVar 1) (tC (.int 0))) (tCons (tOp (rIxL K) (tVar 1) (tC (.int 1))) (tCons (tOp (rIxL K) (tVar 1) (tC (.int 2))) tNil)))))) fun W' => ?_
  refine w_if (b := al) (eb_truB (ev_var rfl)) (fun h => ?_) (fun h => ?_)
  · exact w_dropX (ex_methT (st, x) (ev_var rfl) hs.s rfl a2 rfl ⟨hF, hal h⟩ (fill_no T hb)) ⟨T.e_OffSheet_SheetError, ⟨rfl, rfl, T.xc_OffSheet⟩, T.v_OffSheet, any2, Nat.le_of_ble_eq_true rfl, endP⟩
  · exact w_dropX (ex_methT (st, x) (ev_var rfl) hs.s rfl a3 rfl hF (fill_no T hb)) ⟨T.e_OffSheet_SheetError, ⟨rfl, rfl, T.xc_OffSheet⟩, T.v_OffSheet, any2, Nat.le_of_ble_eq_true rfl, endP⟩
end
end K06

namespace K06
open PySem PySem.Spec L2 Pr Pl Pv Pq
open Evl (Ex rLenS rMax2 rListS)
open PyProof.Rows (envOfC)
/-! own words of the walk -/
local macro_rules | `(tactic| walk_at "side") => `(tactic| first
  | rfl | exact Pu.at_m1 | exact Pu.at_m1' | exact Pu.at_m1'' | exact Pu.at_m2 | exact Pu.at_m2' | exact Pu.at_m3 | exact Pu.at0 | exact Pu.at1 | exact Pu.at2 | exact Pu.at3 | exact Pu.at4 | assumption | decide | omega | exact ⟨by decide, by decide⟩ | exact ⟨by omega, by omega⟩ | exact Or.inr ⟨by omega, by omega⟩ | exact Or.inl ⟨by omega, by omega⟩ | exact Or.inr ⟨by decide, by decide⟩)
local macro_rules | `(tactic| walk_at "ec") => `(tactic| fail)
local macro_rules | `(tactic| walk_at "tab") => `(tactic| assumption)
local macro_rules | `(tactic| walk_at "shape") => `(tactic| first | rfl | assumption)
local macro_rules | `(tactic| walk_at "e") => `(tactic| first
  | exact ev_int | exact ev_str | exact ev_bl | exact ev_non | exact ev_var rfl
  | (apply ev_ixT; (walk_at "e"); (walk_at "e"); (walk_at "side"))
  | (apply ev_ixL; (walk_at "e"); (walk_at "e"); (walk_at "side"))
  | (apply ev_ixO; (walk_at "e"); (walk_at "e"); (rfl); (walk_at "side"))
  | (apply ev_I0; (walk_at "e"); (walk_at "e"); (rfl))
  | (apply ev_I0b; (walk_at "e"); (walk_at "e"); (rfl))
  | (apply ev_I; (walk_at "e"); (walk_at "e"); (rfl); (walk_at "side"))
  | (apply ev_neg; (walk_at "e"); (rfl))
  | (apply ev_eqI; (walk_at "e"); (walk_at "e"))
  | (apply ev_eqS; (walk_at "e"); (walk_at "e"))
  | (apply ev_eqB; (walk_at "e"); (walk_at "e"))
  | (apply ev_neI; (walk_at "e"); (walk_at "e"))
  | (apply ev_neS; (walk_at "e"); (walk_at "e"))
  | (apply ev_eqD; (walk_at "e"); (walk_at "e"); (walk_at "shape"); (walk_at "shape"))
  | (apply ev_neD; (walk_at "e"); (walk_at "e"); (walk_at "shape"); (walk_at "shape"))
  | (apply ev_andV; (walk_at "e"); (intro _; walk_at "e"))
  | (apply ev_orV; (walk_at "e"); (intro _; walk_at "e"))
  | (apply ev_notV; (walk_at "e"))
  | (apply ev_tup; (walk_at "s"); (exact Nat.le_of_ble_eq_true rfl))
  | (apply ev_lst; (walk_at "a"); (exact Nat.le_of_ble_eq_true rfl))
  | (apply ev_slT; (walk_at "e"); (walk_at "o"); (walk_at "o"); (rfl))
  | (apply ev_slL; (walk_at "e"); (walk_at "o"); (walk_at "o"))
  | (apply ev_lenT; (walk_at "e"))
  | (apply ev_len; (walk_at "l"))
  | (apply ev_min2; (walk_at "e"); (walk_at "e"))
  | (apply ev_max2; (walk_at "e"); (walk_at "e"))
  | (apply ev_isi; (walk_at "e"); (first | exact Pu.kb_int_int | exact Pu.kb_int_bool | exact Pu.kb_int_str | exact Pu.kb_int_list | exact Pu.kb_int_tuple | exact Pu.kb_bool_int | exact Pu.kb_bool_bool | exact Pu.kb_bool_str | exact Pu.kb_bool_list | exact Pu.kb_bool_tuple | exact Pu.kb_str_int | exact Pu.kb_str_bool | exact Pu.kb_str_str | exact Pu.kb_str_list | exact Pu.kb_str_tuple | exact Pu.kb_list_int | exact Pu.kb_list_bool | exact Pu.kb_list_str | exact Pu.kb_list_list | exact Pu.kb_list_tuple | exact Pu.kb_tuple_int | exact Pu.kb_tuple_bool | exact Pu.kb_tuple_str | exact Pu.kb_tuple_list | exact Pu.kb_tuple_tuple | exact Pu.kb_NoneType_int | exact Pu.kb_NoneType_bool | exact Pu.kb_NoneType_str | exact Pu.kb_NoneType_list | exact Pu.kb_NoneType_tuple))
  | (apply ev_intB; (walk_at "e"))
  | (apply ev_isN; (walk_at "e"))
  | (apply ev_tupT; (walk_at "e"))
  | (apply ev_tupL; (walk_at "l"))
  | (apply ev_listT; (walk_at "e"))
  | (apply ev_listL; (walk_at "l"))
  | (apply ev_catL; (walk_at "e"); (walk_at "e"); (walk_at "side"))
  | walk_at "ec")
local macro_rules | `(tactic| walk_at "l") => `(tactic| first
  | (apply el_dat; (walk_at "e"))
  | (apply el_ob; (walk_at "e"); (rfl))
  | (apply el_fr; (walk_at "e")))
local macro_rules | `(tactic| walk_at "o") => `(tactic| first
  | exact eo_none
  | (apply eo_some; (walk_at "e")))
local macro_rules | `(tactic| walk_at "a") => `(tactic| first
  | exact ea_nil
  | (apply ea_cons; (walk_at "e"); (walk_at "a")))
local macro_rules | `(tactic| walk_at "s") => `(tactic| first
  | exact ed_nil
  | (apply ed_cons; (walk_at "e"); (walk_at "s")))
local macro_rules | `(tactic| walk_at "b") => `(tactic| first
  | exact eb_yes
  | (apply eb_test; (walk_at "e"))
  | (apply eb_B; (walk_at "e"))
  | (apply eb_truB; (walk_at "e"))
  | (apply eb_truL; (walk_at "l"))
  | (apply eb_truI; (walk_at "e"))
  | (apply eb_not; (walk_at "b"))
  | (apply eb_and; (walk_at "b"); (intro _; walk_at "b"))
  | (apply eb_or; (walk_at "b"); (intro _; walk_at "b")))
section
variable {P : Program} {w : World} {K : PySem.W.Frag} {mg : Str → Option Value} {base : Heap}
/-! ### the law -/
theorem ev_neB {K : PySem.W.Frag} {es : Es} {st st1 st2 : List Ob} {ta tb : TE} {i j : Bool} (ha : Ev K ta es st st1 (.dat (.bool i))) (hb : Ev K tb es st1 st2 (.dat (.bool j))) : Ev K (tOp rNe ta tb) es st st2 (.dat (.bool (!decide (i = j)))) :=
  ev_op2 ha hb fun x y G H ρ _ hx hy Q q => by
    rw [dq_bl hx, dq_bl hy]
    refine ⟨rfl, ?_⟩
    rw [dec_V (f := V.bl) fun a b z => V.bl.inj z]
    exact q _ fun _ => .bl _
theorem at_on {B : Bx} (z : Sz B) (n : Int) : B.has (plI B.w (n % ((B.h : Int) * B.w))).1 (plI B.w (n % ((B.h : Int) * B.w))).2 := by
  have h : (0 : Int) < (B.h : Int) * B.w := Int.mul_pos (by have := z.h0; omega) (by have := z.w0; omega)
  exact plI_has z (Int.emod_nonneg _ (by omega)) (Int.emod_lt_of_pos _ h)
def hM (ns : List Int) : Int := if cell_atM ns 0 / 16 % 8 = 1 then [12, 2, 12].getD (cell_atM ns 0 / 128 % 3).toNat 0 else 2 + cell_atM ns 0 % 4
def wM (ns : List Int) : Int := if cell_atM ns 0 / 16 % 8 = 1 then [2, 12, 12].getD (cell_atM ns 0 / 128 % 3).toNat 0 else 2 + cell_atM ns 0 / 4 % 4
theorem hM_rg (ns : List Int) : 2 ≤ hM ns ∧ hM ns ≤ 12 := by
  unfold hM
  generalize cell_atM ns 0 = c
  have h3 : (c / 128 % 3).toNat < 3 := by omega
  generalize (c / 128 % 3).toNat = n at h3
  split
  · match n, h3 with
    | 0, _ => exact ⟨by decide, by decide⟩
    | 1, _ => exact ⟨by decide, by decide⟩
    | 2, _ => exact ⟨by decide, by decide⟩
  · omega
theorem wM_rg (ns : List Int) : 2 ≤ wM ns ∧ wM ns ≤ 12 := by
  unfold wM
  generalize cell_atM ns 0 = c
  have h3 : (c / 128 % 3).toNat < 3 := by omega
  generalize (c / 128 % 3).toNat = n at h3
  split
  · match n, h3 with
    | 0, _ => exact ⟨by decide, by decide⟩
    | 1, _ => exact ⟨by decide, by decide⟩
    | 2, _ => exact ⟨by decide, by decide⟩
  · omega
theorem sizes_ok (ns : List Int) : ∃ B : Bx, Sz B ∧ hM ns = (B.h : Int) ∧ wM ns = (B.w : Int) := by
  have h := hM_rg ns
  have w := wM_rg ns
  exact ⟨⟨(hM ns).toNat, (wM ns).toNat, 0, 0⟩, ⟨by show 0 < (hM ns).toNat; omega, by show 0 < (wM ns).toNat; omega, by show (hM ns).toNat ≤ 12; omega, by show (wM ns).toNat ≤ 12; omega, rfl, rfl⟩, by show _ = ((hM ns).toNat : Int); omega, by show _ = ((wM ns).toNat : Int); omega⟩
/-- rules that are small -/
structure Gd (B : Bx) (f : QQ → Rl) : Prop where
  size : ∀ q : QQ, B.has q.1 q.2 → (f q).size ≤ 100
  dep : ∀ q : QQ, B.has q.1 q.2 → dp (f q) ≤ 8
theorem Gd.put {B : Bx} {f : QQ → Rl} (h : Gd B f) {p : QQ} {r : Rl} (h1 : r.size ≤ 100) (h2 : dp r ≤ 8) : Gd B (upF f p r) := ⟨fun q hq => by
    unfold upF
    split
    · exact h1
    · exact h.size q hq, fun q hq => by
    unfold upF
    split
    · exact h2
    · exact h.dep q hq⟩
theorem Gd.copy {x : Cp} (h : Gd x.B x.f) (hs : x.B.has x.s.1 x.s.2) : Gd x.B x.g := ⟨fun q hq => by
    unfold Cp.g
    split
    · rw [sh_size]
      exact h.size _ hs
    · exact h.size q hq, fun q hq => by
    unfold Cp.g
    split
    · rw [sh_dp]
      exact h.dep _ hs
    · exact h.dep q hq⟩
theorem ok_source {x : Cp} (z : Sz x.B) (h : x.ok = true) : x.B.has x.s.1 x.s.2 := by
  unfold Cp.ok at h
  rw [Bool.and_eq_true] at h
  exact (onS_iff z).mp h.1
/-- the store of the law -/
structure Stt (C : Addr) (B : Bx) (f : QQ → Rl) (kk : Nat) (s : List Ob) : Prop where
  h : Ss C B 0 1 (mT (vB B) f) s
  k : s[kk]? = some (.dic (mT (PL B) f))
  n : 2 ≤ kk
abbrev spLaw (K : PySem.W.Frag) : Sp := spV (α := List Int) K (fun ns => [.dat (.list (ns.map PyData.int))]) (fun ns => ns.length ≤ 63) (fun _ => []) (fun _ => .ret (.dat (.bool true)) [])
theorem law_in {K : PySem.W.Frag} {H : Hp} {a : Addr} {ns : List Int} (hl : ns.length ≤ 63) (hS : SqL K H a (ns.map V.int)) : spLaw K [.ref a] H (fun v _ => v = .bl true) fun _ _ _ => False := law_in' hl hS
theorem ok_law (T : Top K mg w) : FnOk P w K mg base CX0 70 T.a_law T.d_law ["_law_script"] (spLaw K) := by
  refine fn_v T.F_law sc_law (fun _ => rfl) (fun x _ => Nat.le_refl _) fun cdv A outer s H E hr => ⟨_, B_law T (ok_init T) (by decide) (ok_put T) (by decide) (ok_cell_at T) (by decide) (ok_corners T) (by decide) (ok_done T) (by decide) (ok_drawn T) (by decide) (ok_due T) (by decide) (ok_holds T) (by decide) (ok_any T) (by decide) hr, fun ns hp => ?_⟩
  obtain ⟨B, z, eh, ew⟩ := sizes_ok ns
  have hw : (0 : Int) < (B.w : Int) := by have := z.w0; omega
  have hh : (0 : Int) < (B.h : Int) := by have := z.h0; omega
  have w12 := z.w1
  have h12 := z.h1
  have few : (PL B).length ≤ 144 := by rw [PL_len]; exact sz_area z
  have l144 := vB_len z
  have pd := PL_dup z
  have hwp : (0 : Int) < (B.h : Int) * B.w := Int.mul_pos hh hw
  have hwh : (B.h : Int) * B.w = ((B.h * B.w : Nat) : Int) := (Int.natCast_mul _ _).symm
  have ar := sz_area z
  show Ws K _ _ [.dat (.list (ns.map PyData.int)), .no, .no, .no, .no, .no, .no, .no, .no, .no, .no, .no] [] _
  have cl : ∀ {es : Es} {st : List Ob} {te : TE} {k : Int}, es[0]? = some (.dat (.list (ns.map PyData.int))) → Ev K te es st st (.dat (.int k)) → 0 ≤ k → Ev K (tCall (sp__law_cell_at K) [] E0 (tCons (tVar 0) (tCons te tNil))) es st st (.dat (.int (cell_atM ns k.toNat))) := fun h he h0 => ec_cell_at (ev_var h) he h0
  let en : Ent → Ent → Ent → Ent → Ent → Ent → Ent → Ent → Es := fun kept k org trn at_ cor way due => [.dat (.list (ns.map PyData.int)), .dat (.int B.h), .dat (.int B.w), .ob 0, kept, k, org, trn, at_, cor, way, due]
  apply w_seq
  refine w_asg (x := .dat (.int (2 + cell_atM ns 0 % 4))) (ev_I0 ev_int (ev_I (cl rfl ev_int (by decide)) ev_int rfl (by decide)) rfl) ?_
  apply w_seq
  refine w_asg (x := .dat (.int (2 + cell_atM ns 0 / 4 % 4))) (ev_I0 ev_int (ev_I (ev_I (cl rfl ev_int (by decide)) ev_int rfl ⟨by decide, by decide⟩) ev_int rfl (by decide)) rfl) ?_
  refine w_seqI (fun e s => s = [] ∧ e = [.dat (.list (ns.map PyData.int)), .dat (.int B.h), .dat (.int B.w), .no, .no, .no, .no, .no, .no, .no, .no, .no]) ?_ ?_
  · rw [← eh, ← ew]
    have f0 := Int.emod_nonneg (cell_atM ns 0 / 128) (show (3 : Int) ≠ 0 by decide)
    have f1 := Int.emod_lt_of_pos (cell_atM ns 0 / 128) (show (0 : Int) < 3 by decide)
    unfold hM wM
    refine w_if (eb_test (ev_eqI (ev_I (ev_I (cl rfl ev_int (by decide)) ev_int rfl ⟨by decide, by decide⟩) ev_int rfl (by decide)) ev_int)) (fun hb => ?_) (fun hb => w_next ⟨rfl, ?_⟩)
    · have hb : cell_atM ns 0 / 16 % 8 = 1 := of_decide_eq_true hb
      rw [if_pos hb, if_pos hb]
      apply w_seq
      refine w_asg (x := .dat (.int ([12, 2, 12].getD (cell_atM ns 0 / 128 % 3).toNat 0))) (ev_ixL (ev_share (ds := List.map PyData.int [12, 2, 12]) (ev_lst (xs := List.map It.dat (List.map PyData.int [12, 2, 12])) (ea_cons ev_int (ea_cons ev_int (ea_cons ev_int ea_nil))) (Nat.le_of_ble_eq_true rfl))) (ev_I (ev_I (cl rfl ev_int (by decide)) ev_int rfl ⟨by decide, by decide⟩) ev_int rfl (by decide)) (at_lit ⟨f0, f1⟩)) ?_
      exact w_asg (x := .dat (.int ([2, 12, 12].getD (cell_atM ns 0 / 128 % 3).toNat 0))) (ev_ixL (ev_share (ds := List.map PyData.int [2, 12, 12]) (ev_lst (xs := List.map It.dat (List.map PyData.int [2, 12, 12])) (ea_cons ev_int (ea_cons ev_int (ea_cons ev_int ea_nil))) (Nat.le_of_ble_eq_true rfl))) (ev_I (ev_I (cl rfl ev_int (by decide)) ev_int rfl ⟨by decide, by decide⟩) ev_int rfl (by decide)) (at_lit ⟨f0, f1⟩)) ⟨rfl, rfl⟩
    · have hb : ¬ cell_atM ns 0 / 16 % 8 = 1 := of_decide_eq_false hb
      rw [if_neg hb, if_neg hb]
      rfl
  rintro e s ⟨rfl, rfl⟩
  let f9 : QQ → Rl := fun _ => .num 0
  apply w_seq
  refine w_asg (x := .ob 0) (st1 := [.ins T.c_Sheet (shFs B 1), .dic (mT (vB B) f9)]) (ev_st (ev_make (args := A_init) (stf := fun x => x.st) (out := O_init T) (⟨[.ins T.c_Sheet []], B, 0⟩ : Ri) (ea_cons (ev_var rfl) (ea_cons (ev_var rfl) ea_nil)) rfl rfl ⟨z, rfl, rfl⟩ rfl) (by rw [← mNew_T]; rfl)) ?_
  apply w_seq
  let Sq : (QQ → Rl) → List (QQ × Pv.It) → List Ob := fun g m => [.ins T.c_Sheet (shFs B 1), .dic (mT (vB B) g), .dic m]
  refine w_asg (x := .ob 2) (st1 := Sq f9 []) (ev_store ev_dnew) ?_
  apply w_seq
  have mul : ∀ {es : Es} {s : List Ob}, es[1]? = some (.dat (.int B.h)) → es[2]? = some (.dat (.int B.w)) → Ev K (tOp (rI CMul fun i j => V.int (i * j)) (tVar 1) (tVar 2)) es s s (.dat (.int ((B.h : Int) * B.w))) := fun h1 h2 => ev_I (ev_var h1) (ev_var h2) rfl (.inl ⟨by omega, by omega⟩)
  refine w_forR (n := B.h * B.w) (ea_cons (ev_is (mul rfl rfl) (by rw [hwh])) ea_nil) (by omega) (fun i es s => s = Sq f9 (mT ((PL B).take i) f9) ∧ ∃ x, es = en (.ob 2) x .no .no .no .no .no .no) ⟨by rw [List.take_zero]; rfl, _, rfl⟩ ?_ ?_
  · rintro i es s hi ⟨rfl, x, rfl⟩
    have gp := PL_get (B := B) hi
    refine w_dput (k := 2) (p := plI B.w (i : Int)) (m := mT ((PL B).take i) f9) (x := .dat (Rl.num 0).d) (ev_tup (ds := [.str "num", .int 0]) (ed_cons ev_str (ed_cons ev_int ed_nil)) (Nat.le_of_ble_eq_true rfl)) (ev_var rfl) (ev_tup (ds := [.int ((i : Int) / B.w), .int ((i : Int) % (B.w : Int))]) (ed_cons (ev_I (ev_var rfl) (ev_var rfl) rfl ⟨hw, by omega⟩) (ed_cons (ev_I (ev_var rfl) (ev_var rfl) rfl hw) ed_nil)) (Nat.le_of_ble_eq_true rfl)) rfl ?_ ⟨?_, _, rfl⟩
    · rw [mT_len]
      exact Nat.lt_of_le_of_lt (List.length_take_le' _ _) (by rw [PL_len]; omega)
    · have e1 := mT_snoc (f := f9) (take_new pd gp)
      rw [← take_snoc gp] at e1
      show [_, _, Ob.dic (putM _ _ (.dat (f9 (plI B.w (i : Int))).d))] = _
      rw [e1]
  rintro es s ⟨rfl, x, rfl⟩
  rw [List.take_of_length_le (by rw [PL_len]; exact Nat.le_refl _)]
  have gd9 : Gd B f9 := ⟨fun _ _ => (show (1 : Nat) ≤ 100 by decide), fun _ _ => (show (1 : Nat) ≤ 8 by decide)⟩
  let atI_ : Nat → Int := fun i => cell_atM ns (1 + i) % ((B.h : Int) * B.w)
  have atr : ∀ i, 0 ≤ atI_ i ∧ atI_ i < (B.h : Int) * B.w := fun i => ⟨Int.emod_nonneg _ (by omega), Int.emod_lt_of_pos _ hwp⟩
  have pl : ∀ {es : Es} {s : List Ob} {a : Int}, es[8]? = some (.dat (.int a)) → es[2]? = some (.dat (.int B.w)) → 0 ≤ a → a < (B.h : Int) * B.w → EvA K (tCons (tOp (rI CDiv fun i j => V.int (i / j)) (tVar 8) (tVar 2)) (tCons (tOp (rI (fun _ j => 0 < j) fun i j => V.int (i % j)) (tVar 8) (tVar 2)) tNil)) es s s [.dat (.int (a / (B.w : Int))), .dat (.int (a % (B.w : Int)))] := fun h1 h2 h3 h4 => ed_cons (ev_I (ev_var h1) (ev_var h2) rfl ⟨hw, by omega⟩) (ed_cons (ev_I (ev_var h1) (ev_var h2) rfl hw) ed_nil)
  have pT : ∀ {es : Es} {s : List Ob} {a : Int}, es[8]? = some (.dat (.int a)) → es[2]? = some (.dat (.int B.w)) → 0 ≤ a → a < (B.h : Int) * B.w → Ev K (tTup (tCons (tOp (rI CDiv fun i j => V.int (i / j)) (tVar 8) (tVar 2)) (tCons (tOp (rI (fun _ j => 0 < j) fun i j => V.int (i % j)) (tVar 8) (tVar 2)) tNil))) es s s (.dat (Pl.pD (plI B.w a))) := fun {es s a} h1 h2 h3 h4 => ev_tup (ds := [.int (a / (B.w : Int)), .int (a % (B.w : Int))]) (pl h1 h2 h3 h4) (Nat.le_of_ble_eq_true rfl)
  apply w_seq
  refine w_forR (n := 3) (ea_cons ev_int ea_nil) (by decide) (fun i e s => (∃ f, Gd B f ∧ s = Sq f (mT (PL B) f)) ∧ ∃ x at_, (0 < i → ∃ a : Int, (0 ≤ a ∧ a < (B.h : Int) * B.w) ∧ at_ = .dat (.int a)) ∧ e = en (.ob 2) x .no .no at_ .no .no .no) ⟨⟨f9, gd9, rfl⟩, _, _, fun h => absurd h (Nat.lt_irrefl _), rfl⟩ ?_ ?_
  · rintro i e s hi ⟨⟨f, gf, rfl⟩, x, at_, _, rfl⟩
    have e1 : ((1 : Int) + (i : Nat)).toNat = 1 + i := by omega
    have ha := atr i
    have hB : B.has (plI B.w (atI_ i)).1 (plI B.w (atI_ i)).2 := at_on z _
    obtain ⟨d1, d2, d3⟩ := drawM_ok z ns i
    apply w_seq
    refine w_asg (x := .dat (.int (atI_ i))) (ev_I (ev_is (cl rfl (ev_I0 ev_int (ev_var rfl) rfl) (by omega)) (by rw [e1])) (mul rfl rfl) rfl hwp) ?_
    apply w_seq
    refine w_dput (k := 2) (p := plI B.w (atI_ i)) (m := mT (PL B) f) (x := .dat (drawM ns i B.h B.w).d) (ep_call (args := A_draw) (ns, i, B) (ea_cons (ev_var rfl) (ea_cons (ev_var rfl) (ea_cons (ev_var rfl) (ea_cons (ev_var rfl) ea_nil)))) z) (ev_var rfl) (pT rfl rfl ha.1 ha.2) rfl (by rw [mT_len]; omega) ?_
    rw [mT_put ((PL_mem z).mpr hB)]
    let f' : QQ → Rl := upF f (plI B.w (atI_ i)) (drawM ns i B.h B.w)
    show Ws K _ _ _ (Sq f (mT (PL B) f')) _
    have look : (mT (PL B) f').lookup (plI B.w (atI_ i)) = some (.dat (drawM ns i B.h B.w).d) := by
      have q := mT_look (f := f') pd ((PL_mem z).mpr hB)
      have e : f' (plI B.w (atI_ i)) = drawM ns i B.h B.w := if_pos rfl
      rw [e] at q
      exact q
    refine w_ok fun okS => w_putS (k := 0) (j := 1) (f := f) (p := plI B.w (atI_ i)) (r := drawM ns i B.h B.w) T z (ev_var rfl) ⟨rfl, rfl⟩ (ea_cons (pT rfl rfl ha.1 ha.2) (ea_cons (ev_dget (p := plI B.w (atI_ i)) (ev_var rfl) (pT rfl rfl ha.1 ha.2) rfl look) ea_nil)) ⟨rfl, rfl⟩ okS hB d3 (by omega) d2 ⟨⟨f', gf.put (by omega) d2, rfl⟩, _, _, fun _ => ⟨_, ha, rfl⟩, rfl⟩
  rintro e s ⟨⟨f, gf, rfl⟩, x5, at_, hat, rfl⟩
  obtain ⟨a8, ha, rfl⟩ := hat (show (0 : Nat) < 3 by decide)
  apply w_seq
  refine w_asg (x := .dat (Pl.pD (plI B.w a8))) (pT rfl rfl ha.1 ha.2) ?_
  apply w_seq
  have t0 := Int.emod_nonneg (cell_atM ns 7) (show (3 : Int) ≠ 0 by decide)
  have t1 := Int.emod_lt_of_pos (cell_atM ns 7) (show (0 : Int) < 3 by decide)
  refine w_forR (n := (1 + cell_atM ns 7 % 3).toNat) (ea_cons (ev_is (ev_I0 ev_int (ev_I (cl rfl ev_int (by decide)) ev_int rfl (by decide)) rfl) (by rw [Int.toNat_of_nonneg (by omega)]; rfl)) ea_nil) (by omega) (fun i e s => ∃ f kk o, Gd B f ∧ Stt T.c_Sheet B f kk s ∧ ∃ k trn at_ cor way due, e = en (.ob kk) k (.dat (Pl.pD o)) trn at_ cor way due) ⟨f, 2, _, gf, ⟨⟨rfl, rfl⟩, rfl, Nat.le_refl _⟩, _, _, _, _, _, _, rfl⟩ ?_ ?_
  · rintro i e s hi ⟨f, kk, o, gf, ⟨hs, hk, h2⟩, k, trn, at_, cor, way, due, rfl⟩
    have i100 : i < 100 := by omega
    obtain ⟨a0, b0, c0, ec⟩ : ∃ a b c : QQ, cornM ns i B.h B.w = [a, b, c] := by
      have hl := cornM_len ns i B.h B.w
      match hm : cornM ns i B.h B.w, hl with
      | [a, b, c], _ => exact ⟨a, b, c, rfl⟩
    let wv : Int := cell_atM ns (23 + 8 * i)
    have ewv : ((23 : Int) + 8 * (i : Nat)).toNat = 23 + 8 * i := by omega
    have kl := (List.getElem?_eq_some_iff.mp hk).1
    have jl := (List.getElem?_eq_some_iff.mp hs.d).1
    apply w_seq
    refine w_asg (x := .ob s.length) (st1 := s ++ [ptsO [a0, b0, c0]]) (ev_store (ev_is (eq_call (args := A_corners) (pre := fun _ a => Sz a.2.2 ∧ a.2.1 < 100) (res := fun a => .fr (ptsO (cornM a.1 a.2.1 a.2.2.h a.2.2.w))) (ns, i, B) (ea_cons (ev_var rfl) (ea_cons (ev_var rfl) (ea_cons (ev_var rfl) (ea_cons (ev_var rfl) ea_nil)))) ⟨z, i100⟩) (by show Rv.fr (ptsO (cornM ns i B.h B.w)) = _; rw [ec]))) ?_
    apply w_seq
    refine w_asg (x := .dat (.int wv)) (ev_is (cl rfl (ev_I0 ev_int (ev_I ev_int (ev_var rfl) rfl (.inl ⟨by omega, by omega⟩)) rfl) (by omega)) (by rw [ewv])) ?_
    let al : Bool := decide (wv / 2 % 3 = 1)
    let e9 : Ent → Es := fun d => en (.ob kk) k (.dat (Pl.pD o)) (.dat (.int (i : Nat))) at_ (.ob s.length) (.dat (.int wv)) d
    refine w_seqI (fun e s' => ∃ a : QQ, s' = s ++ [ptsO [a, b0, c0]] ∧ e = e9 due) ?_ ?_
    · refine w_if (eb_test (ev_eqI (ev_I (ev_var rfl) ev_int rfl (by decide)) ev_int)) (fun hb => ?_) (fun hb => w_next ⟨a0, rfl, rfl⟩)
      refine w_setL (k := s.length) (n := 0) (z := 0) (xs := [a0, b0, c0].map fun q => .dat (Pl.pD q)) (x := .dat (Pl.pD o)) (ev_var rfl) (ev_var rfl) ev_int getE rfl ⟨o, ?_, rfl⟩
      rw [setE]
      rfl
    rintro e s' ⟨a, rfl, rfl⟩
    refine w_seqI (fun e s' => ∃ c : QQ, (al = true → c = b0) ∧ s' = s ++ [ptsO [a, b0, c]] ∧ e = e9 due) ?_ ?_
    · refine w_if (eb_test (ev_eqI (ev_I (ev_I (ev_var rfl) ev_int rfl ⟨by decide, by decide⟩) ev_int rfl (by decide)) ev_int)) (fun hb => ?_) (fun hb => w_next ⟨c0, fun h => ?_, rfl, rfl⟩)
      · refine w_setL (k := s.length) (n := 2) (z := 2) (xs := [a, b0, c0].map fun q => .dat (Pl.pD q)) (x := .dat (Pl.pD b0)) (ev_ixO (xs := [a, b0, c0].map fun q => .dat (Pl.pD q)) (ev_var rfl) ev_int getE rfl) (ev_var rfl) ev_int getE rfl ⟨b0, fun _ => rfl, ?_, rfl⟩
        rw [setE]
        rfl
      · have hb : al = false := hb
        rw [hb] at h
        cases h
    rintro e s' ⟨c, hal, rfl, rfl⟩
    let S0 : List Ob := s ++ [ptsO [a, b0, c]]
    have hs0 : Ss T.c_Sheet B 0 1 (mT (vB B) f) S0 := hs.app
    have hk0 : S0[kk]? = some (.dic (mT (PL B) f)) := by
      rw [List.getElem?_append_left kl]
      exact hk
    have hc0 : S0[s.length]? = some (ptsO [a, b0, c]) := getE
    have nk1 : kk ≠ 1 := by omega
    have lS0 : S0.length = s.length + 1 := by simp [S0]
    let x : Cp := ⟨B, 0, 1, f, a, b0, c⟩
    have alE : ∀ {d : Ent} {s : List Ob}, Ev K (tOp rEq (tOp (rI (fun _ j => 0 < j) fun i j => V.int (i % j)) (tOp (rI CDiv fun i j => V.int (i / j)) (tVar 10) (tC (.int 2))) (tC (.int 3))) (tC (.int 1))) (e9 d) s s (.dat (.bool al)) := ev_eqI (ev_I (ev_I (ev_var rfl) ev_int rfl ⟨by decide, by decide⟩) ev_int rfl (by decide)) ev_int
    have preO : ∀ {ex : List Ob}, okSt (S0 ++ ex) = true → preN T (S0 ++ ex) ⟨x, s.length, al⟩ := fun {ex} hok => ⟨⟨z, hs0.app, hok, fun q hq => Nat.le_trans (gf.size q hq) (by decide)⟩, by
      show (S0 ++ ex)[s.length]? = some (ptsO [a, b0, c])
      rw [List.getElem?_append_left (by omega)]
      exact hc0, hal⟩
    have dueE := eq_call (K := K) (E := E0) (args := A_due) (pre := preU) (res := DueR) (ts := tCons (tVar 4) (tCons (tVar 9) (tCons (tVar 1) (tCons (tVar 2) tNil)))) (es := e9 due) (st := S0) (st1 := S0) ⟨B, kk, s.length, f, a, b0, c⟩ (ea_cons (ev_var rfl) (ea_cons (ev_var rfl) (ea_cons (ev_var rfl) (ea_cons (ev_var rfl) ea_nil)))) ⟨z, hk0, hc0, fun q hq => gf.dep q hq⟩
    apply w_seq
    cases hx : x.ok with
    | true =>
      have dE : DueR ⟨B, kk, s.length, f, a, b0, c⟩ = .fr (.dic (mT (PL B) x.g)) := if_pos hx
      rw [dE] at dueE
      let S1 : List Ob := S0 ++ [.dic (mT (PL B) x.g)]
      refine w_asg (x := .ob S0.length) (st1 := S1) (ev_store dueE) ?_
      have hB : B.has a.1 a.2 := ok_source (x := x) z hx
      have gg : Gd B x.g := Gd.copy (x := x) gf hB
      let S2 : List Ob := S1.set 1 (.dic (mT (vB B) x.g))
      apply w_seq
      refine w_ok fun okS => ?_
      have dn : Dn.st T (S1, ⟨x, s.length, al⟩) = S2 := if_pos hx
      have donE := ev_call (K := K) (E := E0) (α := List Ob × Dn) (args := fun y => A_done y.2) (pre := fun y => preN T y.1 y.2) (stf := fun y => y.1) (out := fun y => .ret (.dat (.bool y.2.x.ok)) (Dn.st T y)) (ts := tCons (tVar 3) (tCons (tVar 9) (tCons (tOp rEq (tOp (rI (fun _ j => 0 < j) fun i j => V.int (i % j)) (tOp (rI CDiv fun i j => V.int (i / j)) (tVar 10) (tC (.int 2))) (tC (.int 3))) (tC (.int 1))) tNil))) (es := e9 (.ob S0.length)) (st := S1) (S1, ⟨x, s.length, al⟩) (ea_cons (ev_var rfl) (ea_cons (ev_var rfl) (ea_cons alE ea_nil))) (preO okS) (by show Pv.Out.ret _ _ = Pv.Out.ret _ _; rw [dn, hx])
      refine w_if (b := false) (eb_test (ev_is (ev_neB donE (ev_notN (x := .ob S0.length) (ev_var rfl))) rfl)) (fun h => nomatch h) fun _ => w_next ?_
      apply w_seq
      refine w_if (b := false) (eb_andF (eb_test (ev_isN (x := .ob S0.length) (ev_var rfl)))) (fun h => nomatch h) fun _ => w_next ?_
      have l1 : 1 < S1.length := by
        show 1 < (S0 ++ [_]).length
        rw [List.length_append]
        omega
      have g2 : ∀ n, n ≠ 1 → S2[n]? = S1[n]? := fun n hn => List.getElem?_set_ne (Ne.symm hn)
      have hsN : Ss T.c_Sheet B 0 1 (mT (vB B) x.g) S2 := ⟨by rw [g2 0 (by decide)]; exact hs0.app.s, List.getElem?_set_self l1⟩
      have hkN : S2[S0.length]? = some (.dic (mT (PL B) x.g)) := by
        rw [g2 _ (by omega)]
        exact getE
      have hcN : S2[s.length]? = some (ptsO [a, b0, c]) := by
        rw [g2 _ (by omega), List.getElem?_append_left (by omega)]
        exact hc0
      apply w_seq
      refine w_if (b := true) (eb_test (ev_is (ev_notN (x := .ob S0.length) (ev_var rfl)) rfl)) (fun _ => ?_) fun h => nomatch h
      apply w_seq
      refine w_asg (x := .ob S0.length) (ev_var rfl) ?_
      refine w_asg (x := .dat (Pl.pD b0)) (ev_ixO (xs := [a, b0, c].map fun q => .dat (Pl.pD q)) (ev_var rfl) ev_int hcN rfl) ?_
      exact w_if (b := false) (eb_not (b := true) (eb_B (eq_call (args := A_holds) (pre := preH T) (res := fun _ => .dat (.bool true)) ⟨B, S0.length, 1, x.g, a, b0, c⟩ (ea_cons (ev_var rfl) (ea_cons (ev_var rfl) ea_nil)) ⟨z, hsN, hkN, ⟨by show S0.length ≠ 0; omega, by show S0.length ≠ 1; omega⟩, gg.dep⟩))) (fun h => nomatch h) fun _ => w_next ⟨x.g, S0.length, b0, gg, ⟨hsN, hkN, by omega⟩, _, _, _, _, _, _, rfl⟩
    | false =>
      have dE : DueR ⟨B, kk, s.length, f, a, b0, c⟩ = .dat .none := if_neg (by show ¬ x.ok = true; rw [hx]; exact Bool.false_ne_true)
      rw [dE] at dueE
      refine w_asg (x := .dat .none) dueE ?_
      apply w_seq
      refine w_ok fun okS => ?_
      have dn : Dn.st T (S0, ⟨x, s.length, al⟩) = S0 := if_neg (by show ¬ x.ok = true; rw [hx]; exact Bool.false_ne_true)
      have pre0 : preN T S0 ⟨x, s.length, al⟩ := by
        have q := preO (ex := []) (by rw [List.append_nil]; exact okS)
        rw [List.append_nil] at q
        exact q
      have donE := ev_call (K := K) (E := E0) (α := List Ob × Dn) (args := fun y => A_done y.2) (pre := fun y => preN T y.1 y.2) (stf := fun y => y.1) (out := fun y => .ret (.dat (.bool y.2.x.ok)) (Dn.st T y)) (ts := tCons (tVar 3) (tCons (tVar 9) (tCons (tOp rEq (tOp (rI (fun _ j => 0 < j) fun i j => V.int (i % j)) (tOp (rI CDiv fun i j => V.int (i / j)) (tVar 10) (tC (.int 2))) (tC (.int 3))) (tC (.int 1))) tNil))) (es := e9 (.dat .none)) (st := S0) (S0, ⟨x, s.length, al⟩) (ea_cons (ev_var rfl) (ea_cons (ev_var rfl) (ea_cons alE ea_nil))) pre0 (by show Pv.Out.ret _ _ = Pv.Out.ret _ _; rw [dn, hx])
      refine w_if (b := false) (eb_test (ev_is (ev_neB donE (ev_notN (x := .dat .none) (ev_var rfl))) rfl)) (fun h => nomatch h) fun _ => w_next ?_
      apply w_seq
      refine w_if (b := false) (eb_is (eb_and (eb_test (ev_is (ev_isN (x := .dat .none) (ev_var rfl)) rfl)) fun _ => eb_not (b := true) (eb_B (eq_call (args := A_done) (pre := fun st y => preN T st y ∧ y.x.ok = false) (res := fun _ => .dat (.bool true)) ⟨x, s.length, al⟩ (ea_cons (ev_var rfl) (ea_cons (ev_var rfl) (ea_cons alE ea_nil))) ⟨pre0, hx⟩))) rfl) (fun h => nomatch h) fun _ => w_next ?_
      apply w_seq
      refine w_if (b := false) (eb_test (ev_is (ev_notN (x := .dat .none) (ev_var rfl)) rfl)) (fun h => nomatch h) fun _ => w_next ?_
      exact w_if (b := false) (eb_not (b := true) (eb_B (eq_call (args := A_holds) (pre := preH T) (res := fun _ => .dat (.bool true)) ⟨B, kk, 1, f, a, b0, c⟩ (ea_cons (ev_var rfl) (ea_cons (ev_var rfl) ea_nil)) ⟨z, hs0, hk0, ⟨by show kk ≠ 0; omega, nk1⟩, gf.dep⟩))) (fun h => nomatch h) fun _ => w_next ⟨f, kk, o, gf, ⟨hs0, hk0, h2⟩, _, _, _, _, _, _, rfl⟩
  rintro e s ⟨f, kk, o, gf, ⟨hs, hk, h2⟩, k, trn, at_, cor, way, due, rfl⟩
  exact w_ret ev_bl ⟨s, (List.nil_append _).symm, rfl, .inl ⟨rfl, rfl⟩⟩
end
end K06

namespace K06
open PySem PySem.Spec L2 Pu
open Evl (Ex rLenS rMax2 rListS)
open PyProof.Rows (envOfC)
theorem all_mk {l : PySem.W.OpenLaw} {w : World} {K : PySem.W.Frag} {h : Heap} {mg : Str → Option Value} {fa : Addr} (X : K.In h) (G : h.Ns mainGlobals mg) (hfa : mg "law" = some (.ref fa))
    {CSheet : Addr} (gCSheet : PySem.W.nsIn K mainGlobals "Sheet" = some (some (.ref CSheet))) (pgSheet : PySem.W.plainGet K CSheet Str.empty = true) (hdSheet : PySem.W.hasDictIn K CSheet = true) (poSheet : PySem.W.plainOver K CSheet = true) (saSheet : PySem.W.findIn K (.ref CSheet) "__setattr__" = some (some (.builtin "object.__setattr__"))) (mkSheet : PySem.W.makesIn K CSheet = true) (kpSheet : PySem.W.keepIn K (.ref CSheet) = true)
    (nASheethigh : PySem.W.findIn K (.ref CSheet) "high" = some none)
    (nASheetwide : PySem.W.findIn K (.ref CSheet) "wide" = some none)
    (nASheetrules : PySem.W.findIn K (.ref CSheet) "_rules" = some none)
    {f0 : Addr} {od0 an0 : Option Addr} {sl0 : Array (Option Value)} {oc0 kV0 dc0 pm0 cd0 ct0 : Value}
    (a0 : PySem.W.nsIn K mainGlobals "area" = some (some (.ref f0)))
    (l0 : K.lookup f0 = some ⟨oc0, od0, .func (PySem.W.fnOf "area" "area" (defArgs s_area) (defBody s_area) (defScope s_area) .none kV0 dc0 pm0 an0 cd0 ct0), sl0⟩) (c0 : PySem.W.codeIn K cd0 "area" = true) (k0 : PySem.W.keepIn K (.ref f0) = true)
    {f1 : Addr} {od1 an1 : Option Addr} {sl1 : Array (Option Value)} {oc1 kV1 dc1 pm1 cd1 ct1 : Value}
    (a1 : PySem.W.nsIn K mainGlobals "inner_rules" = some (some (.ref f1)))
    (l1 : K.lookup f1 = some ⟨oc1, od1, .func (PySem.W.fnOf "inner_rules" "inner_rules" (defArgs s_inner_rules) (defBody s_inner_rules) (defScope s_inner_rules) .none kV1 dc1 pm1 an1 cd1 ct1), sl1⟩) (c1 : PySem.W.codeIn K cd1 "inner_rules" = true) (k1 : PySem.W.keepIn K (.ref f1) = true)
    {f2 : Addr} {od2 an2 : Option Addr} {sl2 : Array (Option Value)} {oc2 kV2 dc2 pm2 cd2 ct2 : Value}
    (a2 : PySem.W.nsIn K mainGlobals "references" = some (some (.ref f2)))
    (l2 : K.lookup f2 = some ⟨oc2, od2, .func (PySem.W.fnOf "references" "references" (defArgs s_references) (defBody s_references) (defScope s_references) .none kV2 dc2 pm2 an2 cd2 ct2), sl2⟩) (c2 : PySem.W.codeIn K cd2 "references" = true) (k2 : PySem.W.keepIn K (.ref f2) = true)
    {f3 : Addr} {od3 an3 : Option Addr} {sl3 : Array (Option Value)} {oc3 kV3 dc3 pm3 cd3 ct3 : Value}
    (a3 : PySem.W.nsIn K mainGlobals "outer_first" = some (some (.ref f3)))
    (l3 : K.lookup f3 = some ⟨oc3, od3, .func (PySem.W.fnOf "outer_first" "outer_first" (defArgs s_outer_first) (defBody s_outer_first) (defScope s_outer_first) .none kV3 dc3 pm3 an3 cd3 ct3), sl3⟩) (c3 : PySem.W.codeIn K cd3 "outer_first" = true) (k3 : PySem.W.keepIn K (.ref f3) = true)
    {f4 : Addr} {od4 an4 : Option Addr} {sl4 : Array (Option Value)} {oc4 kV4 dc4 pm4 cd4 ct4 : Value}
    (a4 : PySem.W.nsIn K mainGlobals "all_references" = some (some (.ref f4)))
    (l4 : K.lookup f4 = some ⟨oc4, od4, .func (PySem.W.fnOf "all_references" "all_references" (defArgs s_all_references) (defBody s_all_references) (defScope s_all_references) .none kV4 dc4 pm4 an4 cd4 ct4), sl4⟩) (c4 : PySem.W.codeIn K cd4 "all_references" = true) (k4 : PySem.W.keepIn K (.ref f4) = true)
    {f5 : Addr} {od5 an5 : Option Addr} {sl5 : Array (Option Value)} {oc5 kV5 dc5 pm5 cd5 ct5 : Value}
    (a5 : PySem.W.nsIn K mainGlobals "deep" = some (some (.ref f5)))
    (l5 : K.lookup f5 = some ⟨oc5, od5, .func (PySem.W.fnOf "deep" "deep" (defArgs s_deep) (defBody s_deep) (defScope s_deep) .none kV5 dc5 pm5 an5 cd5 ct5), sl5⟩) (c5 : PySem.W.codeIn K cd5 "deep" = true) (k5 : PySem.W.keepIn K (.ref f5) = true)
    {f6 : Addr} {od6 an6 : Option Addr} {sl6 : Array (Option Value)} {oc6 kV6 dc6 pm6 cd6 ct6 : Value}
    (a6 : PySem.W.nsIn K mainGlobals "moved" = some (some (.ref f6)))
    (l6 : K.lookup f6 = some ⟨oc6, od6, .func (PySem.W.fnOf "moved" "moved" (defArgs s_moved) (defBody s_moved) (defScope s_moved) .none kV6 dc6 pm6 an6 cd6 ct6), sl6⟩) (c6 : PySem.W.codeIn K cd6 "moved" = true) (k6 : PySem.W.keepIn K (.ref f6) = true)
    {f7 : Addr} {od7 an7 : Option Addr} {sl7 : Array (Option Value)} {oc7 kV7 dc7 pm7 cd7 ct7 : Value}
    (a7 : PySem.W.nsIn K mainGlobals "shifted" = some (some (.ref f7)))
    (l7 : K.lookup f7 = some ⟨oc7, od7, .func (PySem.W.fnOf "shifted" "shifted" (defArgs s_shifted) (defBody s_shifted) (defScope s_shifted) .none kV7 dc7 pm7 an7 cd7 ct7), sl7⟩) (c7 : PySem.W.codeIn K cd7 "shifted" = true) (k7 : PySem.W.keepIn K (.ref f7) = true)
    {f8 : Addr} {od8 an8 : Option Addr} {sl8 : Array (Option Value)} {oc8 kV8 dc8 pm8 cd8 ct8 : Value}
    (a8 : PySem.W.findIn K (.ref CSheet) "__init__" = some (some (.ref f8))) (i8 : PySem.W.isFn K (.ref f8) = true)
    (l8 : K.lookup f8 = some ⟨oc8, od8, .func (PySem.W.fnOf "__init__" "Sheet.__init__" (defArgs s_Sheet_init) (defBody s_Sheet_init) (defScope s_Sheet_init) .none kV8 dc8 pm8 an8 cd8 ct8), sl8⟩) (c8 : PySem.W.codeIn K cd8 "Sheet.__init__" = true) (k8 : PySem.W.keepIn K (.ref f8) = true)
    {f9 : Addr} {od9 an9 : Option Addr} {sl9 : Array (Option Value)} {oc9 kV9 dc9 pm9 cd9 ct9 : Value}
    (a9 : PySem.W.findIn K (.ref CSheet) "places" = some (some (.ref f9))) (i9 : PySem.W.isFn K (.ref f9) = true)
    (l9 : K.lookup f9 = some ⟨oc9, od9, .func (PySem.W.fnOf "places" "Sheet.places" (defArgs s_Sheet_places) (defBody s_Sheet_places) (defScope s_Sheet_places) .none kV9 dc9 pm9 an9 cd9 ct9), sl9⟩) (c9 : PySem.W.codeIn K cd9 "Sheet.places" = true) (k9 : PySem.W.keepIn K (.ref f9) = true)
    {f10 : Addr} {od10 an10 : Option Addr} {sl10 : Array (Option Value)} {oc10 kV10 dc10 pm10 cd10 ct10 : Value}
    (a10 : PySem.W.findIn K (.ref CSheet) "rule" = some (some (.ref f10))) (i10 : PySem.W.isFn K (.ref f10) = true)
    (l10 : K.lookup f10 = some ⟨oc10, od10, .func (PySem.W.fnOf "rule" "Sheet.rule" (defArgs s_Sheet_rule) (defBody s_Sheet_rule) (defScope s_Sheet_rule) .none kV10 dc10 pm10 an10 cd10 ct10), sl10⟩) (c10 : PySem.W.codeIn K cd10 "Sheet.rule" = true) (k10 : PySem.W.keepIn K (.ref f10) = true)
    {f11 : Addr} {od11 an11 : Option Addr} {sl11 : Array (Option Value)} {oc11 kV11 dc11 pm11 cd11 ct11 : Value}
    (a11 : PySem.W.findIn K (.ref CSheet) "put" = some (some (.ref f11))) (i11 : PySem.W.isFn K (.ref f11) = true)
    (l11 : K.lookup f11 = some ⟨oc11, od11, .func (PySem.W.fnOf "put" "Sheet.put" (defArgs s_Sheet_put) (defBody s_Sheet_put) (defScope s_Sheet_put) .none kV11 dc11 pm11 an11 cd11 ct11), sl11⟩) (c11 : PySem.W.codeIn K cd11 "Sheet.put" = true) (k11 : PySem.W.keepIn K (.ref f11) = true)
    {f12 : Addr} {od12 an12 : Option Addr} {sl12 : Array (Option Value)} {oc12 kV12 dc12 pm12 cd12 ct12 : Value}
    (a12 : PySem.W.findIn K (.ref CSheet) "copied" = some (some (.ref f12))) (i12 : PySem.W.isFn K (.ref f12) = true)
    (l12 : K.lookup f12 = some ⟨oc12, od12, .func (PySem.W.fnOf "copied" "Sheet.copied" (defArgs s_Sheet_copied) (defBody s_Sheet_copied) (defScope s_Sheet_copied) .none kV12 dc12 pm12 an12 cd12 ct12), sl12⟩) (c12 : PySem.W.codeIn K cd12 "Sheet.copied" = true) (k12 : PySem.W.keepIn K (.ref f12) = true)
    {f13 : Addr} {od13 an13 : Option Addr} {sl13 : Array (Option Value)} {oc13 kV13 dc13 pm13 cd13 ct13 : Value}
    (a13 : PySem.W.findIn K (.ref CSheet) "filled" = some (some (.ref f13))) (i13 : PySem.W.isFn K (.ref f13) = true)
    (l13 : K.lookup f13 = some ⟨oc13, od13, .func (PySem.W.fnOf "filled" "Sheet.filled" (defArgs s_Sheet_filled) (defBody s_Sheet_filled) (defScope s_Sheet_filled) .none kV13 dc13 pm13 an13 cd13 ct13), sl13⟩) (c13 : PySem.W.codeIn K cd13 "Sheet.filled" = true) (k13 : PySem.W.keepIn K (.ref f13) = true)
    {f14 : Addr} {od14 an14 : Option Addr} {sl14 : Array (Option Value)} {oc14 kV14 dc14 pm14 cd14 ct14 : Value}
    (a14 : PySem.W.findIn K (.ref CSheet) "_copy" = some (some (.ref f14))) (i14 : PySem.W.isFn K (.ref f14) = true)
    (l14 : K.lookup f14 = some ⟨oc14, od14, .func (PySem.W.fnOf "_copy" "Sheet._copy" (defArgs s_Sheet_copy) (defBody s_Sheet_copy) (defScope s_Sheet_copy) .none kV14 dc14 pm14 an14 cd14 ct14), sl14⟩) (c14 : PySem.W.codeIn K cd14 "Sheet._copy" = true) (k14 : PySem.W.keepIn K (.ref f14) = true)
    {f15 : Addr} {od15 an15 : Option Addr} {sl15 : Array (Option Value)} {oc15 kV15 dc15 pm15 cd15 ct15 : Value}
    (a15 : PySem.W.findIn K (.ref CSheet) "_refuse_references_off" = some (some (.ref f15))) (i15 : PySem.W.isFn K (.ref f15) = true)
    (l15 : K.lookup f15 = some ⟨oc15, od15, .func (PySem.W.fnOf "_refuse_references_off" "Sheet._refuse_references_off" (defArgs s_Sheet_refuse_references_off) (defBody s_Sheet_refuse_references_off) (defScope s_Sheet_refuse_references_off) .none kV15 dc15 pm15 an15 cd15 ct15), sl15⟩) (c15 : PySem.W.codeIn K cd15 "Sheet._refuse_references_off" = true) (k15 : PySem.W.keepIn K (.ref f15) = true)
    {f16 : Addr} {od16 an16 : Option Addr} {sl16 : Array (Option Value)} {oc16 kV16 dc16 pm16 cd16 ct16 : Value}
    (a16 : PySem.W.findIn K (.ref CSheet) "_refuse_off" = some (some (.ref f16))) (i16 : PySem.W.isFn K (.ref f16) = true)
    (l16 : K.lookup f16 = some ⟨oc16, od16, .func (PySem.W.fnOf "_refuse_off" "Sheet._refuse_off" (defArgs s_Sheet_refuse_off) (defBody s_Sheet_refuse_off) (defScope s_Sheet_refuse_off) .none kV16 dc16 pm16 an16 cd16 ct16), sl16⟩) (c16 : PySem.W.codeIn K cd16 "Sheet._refuse_off" = true) (k16 : PySem.W.keepIn K (.ref f16) = true)
    {f17 : Addr} {od17 an17 : Option Addr} {sl17 : Array (Option Value)} {oc17 kV17 dc17 pm17 cd17 ct17 : Value}
    (a17 : PySem.W.nsIn K mainGlobals "_law_cell_at" = some (some (.ref f17)))
    (l17 : K.lookup f17 = some ⟨oc17, od17, .func (PySem.W.fnOf "_law_cell_at" "_law_cell_at" (defArgs s__law_cell_at) (defBody s__law_cell_at) (defScope s__law_cell_at) .none kV17 dc17 pm17 an17 cd17 ct17), sl17⟩) (c17 : PySem.W.codeIn K cd17 "_law_cell_at" = true) (k17 : PySem.W.keepIn K (.ref f17) = true)
    {f18 : Addr} {od18 an18 : Option Addr} {sl18 : Array (Option Value)} {oc18 kV18 dc18 pm18 cd18 ct18 : Value}
    (a18 : PySem.W.nsIn K mainGlobals "_law_ref_by" = some (some (.ref f18)))
    (l18 : K.lookup f18 = some ⟨oc18, od18, .func (PySem.W.fnOf "_law_ref_by" "_law_ref_by" (defArgs s__law_ref_by) (defBody s__law_ref_by) (defScope s__law_ref_by) .none kV18 dc18 pm18 an18 cd18 ct18), sl18⟩) (c18 : PySem.W.codeIn K cd18 "_law_ref_by" = true) (k18 : PySem.W.keepIn K (.ref f18) = true)
    {f19 : Addr} {od19 an19 : Option Addr} {sl19 : Array (Option Value)} {oc19 kV19 dc19 pm19 cd19 ct19 : Value}
    (a19 : PySem.W.nsIn K mainGlobals "_law_leaf_by" = some (some (.ref f19)))
    (l19 : K.lookup f19 = some ⟨oc19, od19, .func (PySem.W.fnOf "_law_leaf_by" "_law_leaf_by" (defArgs s__law_leaf_by) (defBody s__law_leaf_by) (defScope s__law_leaf_by) .none kV19 dc19 pm19 an19 cd19 ct19), sl19⟩) (c19 : PySem.W.codeIn K cd19 "_law_leaf_by" = true) (k19 : PySem.W.keepIn K (.ref f19) = true)
    {f20 : Addr} {od20 an20 : Option Addr} {sl20 : Array (Option Value)} {oc20 kV20 dc20 pm20 cd20 ct20 : Value}
    (a20 : PySem.W.nsIn K mainGlobals "_law_rule_by" = some (some (.ref f20)))
    (l20 : K.lookup f20 = some ⟨oc20, od20, .func (PySem.W.fnOf "_law_rule_by" "_law_rule_by" (defArgs s__law_rule_by) (defBody s__law_rule_by) (defScope s__law_rule_by) .none kV20 dc20 pm20 an20 cd20 ct20), sl20⟩) (c20 : PySem.W.codeIn K cd20 "_law_rule_by" = true) (k20 : PySem.W.keepIn K (.ref f20) = true)
    {f21 : Addr} {od21 an21 : Option Addr} {sl21 : Array (Option Value)} {oc21 kV21 dc21 pm21 cd21 ct21 : Value}
    (a21 : PySem.W.nsIn K mainGlobals "_law_same" = some (some (.ref f21)))
    (l21 : K.lookup f21 = some ⟨oc21, od21, .func (PySem.W.fnOf "_law_same" "_law_same" (defArgs s__law_same) (defBody s__law_same) (defScope s__law_same) .none kV21 dc21 pm21 an21 cd21 ct21), sl21⟩) (c21 : PySem.W.codeIn K cd21 "_law_same" = true) (k21 : PySem.W.keepIn K (.ref f21) = true)
    {f22 : Addr} {od22 an22 : Option Addr} {sl22 : Array (Option Value)} {oc22 kV22 dc22 pm22 cd22 ct22 : Value}
    (a22 : PySem.W.nsIn K mainGlobals "_law_wrapped" = some (some (.ref f22)))
    (l22 : K.lookup f22 = some ⟨oc22, od22, .func (PySem.W.fnOf "_law_wrapped" "_law_wrapped" (defArgs s__law_wrapped) (defBody s__law_wrapped) (defScope s__law_wrapped) .none kV22 dc22 pm22 an22 cd22 ct22), sl22⟩) (c22 : PySem.W.codeIn K cd22 "_law_wrapped" = true) (k22 : PySem.W.keepIn K (.ref f22) = true)
    {f23 : Addr} {od23 an23 : Option Addr} {sl23 : Array (Option Value)} {oc23 kV23 dc23 pm23 cd23 ct23 : Value}
    (a23 : PySem.W.nsIn K mainGlobals "_law_is_ref" = some (some (.ref f23)))
    (l23 : K.lookup f23 = some ⟨oc23, od23, .func (PySem.W.fnOf "_law_is_ref" "_law_is_ref" (defArgs s__law_is_ref) (defBody s__law_is_ref) (defScope s__law_is_ref) .none kV23 dc23 pm23 an23 cd23 ct23), sl23⟩) (c23 : PySem.W.codeIn K cd23 "_law_is_ref" = true) (k23 : PySem.W.keepIn K (.ref f23) = true)
    {f24 : Addr} {od24 an24 : Option Addr} {sl24 : Array (Option Value)} {oc24 kV24 dc24 pm24 cd24 ct24 : Value}
    (a24 : PySem.W.nsIn K mainGlobals "_law_moved" = some (some (.ref f24)))
    (l24 : K.lookup f24 = some ⟨oc24, od24, .func (PySem.W.fnOf "_law_moved" "_law_moved" (defArgs s__law_moved) (defBody s__law_moved) (defScope s__law_moved) .none kV24 dc24 pm24 an24 cd24 ct24), sl24⟩) (c24 : PySem.W.codeIn K cd24 "_law_moved" = true) (k24 : PySem.W.keepIn K (.ref f24) = true)
    {f25 : Addr} {od25 an25 : Option Addr} {sl25 : Array (Option Value)} {oc25 kV25 dc25 pm25 cd25 ct25 : Value}
    (a25 : PySem.W.nsIn K mainGlobals "_law_lies" = some (some (.ref f25)))
    (l25 : K.lookup f25 = some ⟨oc25, od25, .func (PySem.W.fnOf "_law_lies" "_law_lies" (defArgs s__law_lies) (defBody s__law_lies) (defScope s__law_lies) .none kV25 dc25 pm25 an25 cd25 ct25), sl25⟩) (c25 : PySem.W.codeIn K cd25 "_law_lies" = true) (k25 : PySem.W.keepIn K (.ref f25) = true)
    {f26 : Addr} {od26 an26 : Option Addr} {sl26 : Array (Option Value)} {oc26 kV26 dc26 pm26 cd26 ct26 : Value}
    (a26 : PySem.W.nsIn K mainGlobals "_law_drawn_rule" = some (some (.ref f26)))
    (l26 : K.lookup f26 = some ⟨oc26, od26, .func (PySem.W.fnOf "_law_drawn_rule" "_law_drawn_rule" (defArgs s__law_drawn_rule) (defBody s__law_drawn_rule) (defScope s__law_drawn_rule) .none kV26 dc26 pm26 an26 cd26 ct26), sl26⟩) (c26 : PySem.W.codeIn K cd26 "_law_drawn_rule" = true) (k26 : PySem.W.keepIn K (.ref f26) = true)
    {f27 : Addr} {od27 an27 : Option Addr} {sl27 : Array (Option Value)} {oc27 kV27 dc27 pm27 cd27 ct27 : Value}
    (a27 : PySem.W.nsIn K mainGlobals "_law_on" = some (some (.ref f27)))
    (l27 : K.lookup f27 = some ⟨oc27, od27, .func (PySem.W.fnOf "_law_on" "_law_on" (defArgs s__law_on) (defBody s__law_on) (defScope s__law_on) .none kV27 dc27 pm27 an27 cd27 ct27), sl27⟩) (c27 : PySem.W.codeIn K cd27 "_law_on" = true) (k27 : PySem.W.keepIn K (.ref f27) = true)
    {f28 : Addr} {od28 an28 : Option Addr} {sl28 : Array (Option Value)} {oc28 kV28 dc28 pm28 cd28 ct28 : Value}
    (a28 : PySem.W.nsIn K mainGlobals "_law_due" = some (some (.ref f28)))
    (l28 : K.lookup f28 = some ⟨oc28, od28, .func (PySem.W.fnOf "_law_due" "_law_due" (defArgs s__law_due) (defBody s__law_due) (defScope s__law_due) .none kV28 dc28 pm28 an28 cd28 ct28), sl28⟩) (c28 : PySem.W.codeIn K cd28 "_law_due" = true) (k28 : PySem.W.keepIn K (.ref f28) = true)
    {f29 : Addr} {od29 an29 : Option Addr} {sl29 : Array (Option Value)} {oc29 kV29 dc29 pm29 cd29 ct29 : Value}
    (a29 : PySem.W.nsIn K mainGlobals "_law_done" = some (some (.ref f29)))
    (l29 : K.lookup f29 = some ⟨oc29, od29, .func (PySem.W.fnOf "_law_done" "_law_done" (defArgs s__law_done) (defBody s__law_done) (defScope s__law_done) .none kV29 dc29 pm29 an29 cd29 ct29), sl29⟩) (c29 : PySem.W.codeIn K cd29 "_law_done" = true) (k29 : PySem.W.keepIn K (.ref f29) = true)
    {f30 : Addr} {od30 an30 : Option Addr} {sl30 : Array (Option Value)} {oc30 kV30 dc30 pm30 cd30 ct30 : Value}
    (a30 : PySem.W.nsIn K mainGlobals "_law_refused_by_any" = some (some (.ref f30)))
    (l30 : K.lookup f30 = some ⟨oc30, od30, .func (PySem.W.fnOf "_law_refused_by_any" "_law_refused_by_any" (defArgs s__law_refused_by_any) (defBody s__law_refused_by_any) (defScope s__law_refused_by_any) .none kV30 dc30 pm30 an30 cd30 ct30), sl30⟩) (c30 : PySem.W.codeIn K cd30 "_law_refused_by_any" = true) (k30 : PySem.W.keepIn K (.ref f30) = true)
    {f31 : Addr} {od31 an31 : Option Addr} {sl31 : Array (Option Value)} {oc31 kV31 dc31 pm31 cd31 ct31 : Value}
    (a31 : PySem.W.nsIn K mainGlobals "_law_corners" = some (some (.ref f31)))
    (l31 : K.lookup f31 = some ⟨oc31, od31, .func (PySem.W.fnOf "_law_corners" "_law_corners" (defArgs s__law_corners) (defBody s__law_corners) (defScope s__law_corners) .none kV31 dc31 pm31 an31 cd31 ct31), sl31⟩) (c31 : PySem.W.codeIn K cd31 "_law_corners" = true) (k31 : PySem.W.keepIn K (.ref f31) = true)
    {f32 : Addr} {od32 an32 : Option Addr} {sl32 : Array (Option Value)} {oc32 kV32 dc32 pm32 cd32 ct32 : Value}
    (a32 : PySem.W.nsIn K mainGlobals "_law_holds" = some (some (.ref f32)))
    (l32 : K.lookup f32 = some ⟨oc32, od32, .func (PySem.W.fnOf "_law_holds" "_law_holds" (defArgs s__law_holds) (defBody s__law_holds) (defScope s__law_holds) .none kV32 dc32 pm32 an32 cd32 ct32), sl32⟩) (c32 : PySem.W.codeIn K cd32 "_law_holds" = true) (k32 : PySem.W.keepIn K (.ref f32) = true)
    {f33 : Addr} {od33 an33 : Option Addr} {sl33 : Array (Option Value)} {oc33 kV33 dc33 pm33 cd33 ct33 : Value}
    (a33 : PySem.W.nsIn K mainGlobals "law" = some (some (.ref f33)))
    (l33 : K.lookup f33 = some ⟨oc33, od33, .func (PySem.W.fnOf "law" "law" (defArgs s_law) (defBody s_law) (defScope s_law) .none kV33 dc33 pm33 an33 cd33 ct33), sl33⟩) (c33 : PySem.W.codeIn K cd33 "law" = true) (k33 : PySem.W.keepIn K (.ref f33) = true)
    {XSheetError : Addr} (gXSheetError : PySem.W.nsIn K mainGlobals "SheetError" = some (some (.ref XSheetError)))
    (sXSheetError : PySem.W.subIn K (.ref XSheetError) (.type "BaseException") = some true) (tXSheetError : PySem.W.typeIn K (.ref XSheetError) = some (.type "type")) (dXSheetError : PySem.W.hasDictIn K XSheetError = true)
    {XBadSize : Addr} (gXBadSize : PySem.W.nsIn K mainGlobals "BadSize" = some (some (.ref XBadSize)))
    (sXBadSize : PySem.W.subIn K (.ref XBadSize) (.type "BaseException") = some true) (tXBadSize : PySem.W.typeIn K (.ref XBadSize) = some (.type "type")) (dXBadSize : PySem.W.hasDictIn K XBadSize = true)
    (eXBadSize : PySem.W.excIn K XBadSize [.type "ValueError", .type "Exception", .type "BaseException", .type "object"] "ValueError.__new__" = true) (kXBadSize : PySem.W.keepIn K (.ref XBadSize) = true)
    {XOffSheet : Addr} (gXOffSheet : PySem.W.nsIn K mainGlobals "OffSheet" = some (some (.ref XOffSheet)))
    (sXOffSheet : PySem.W.subIn K (.ref XOffSheet) (.type "BaseException") = some true) (tXOffSheet : PySem.W.typeIn K (.ref XOffSheet) = some (.type "type")) (dXOffSheet : PySem.W.hasDictIn K XOffSheet = true)
    (eXOffSheet : PySem.W.excIn K XOffSheet [.type "ValueError", .type "Exception", .type "BaseException", .type "object"] "ValueError.__new__" = true) (kXOffSheet : PySem.W.keepIn K (.ref XOffSheet) = true)
    {XTooDeep : Addr} (gXTooDeep : PySem.W.nsIn K mainGlobals "TooDeep" = some (some (.ref XTooDeep)))
    (sXTooDeep : PySem.W.subIn K (.ref XTooDeep) (.type "BaseException") = some true) (tXTooDeep : PySem.W.typeIn K (.ref XTooDeep) = some (.type "type")) (dXTooDeep : PySem.W.hasDictIn K XTooDeep = true)
    (eXTooDeep : PySem.W.excIn K XTooDeep [.type "ValueError", .type "Exception", .type "BaseException", .type "object"] "ValueError.__new__" = true) (kXTooDeep : PySem.W.keepIn K (.ref XTooDeep) = true)
    (uBadSizeSheetError : PySem.W.subIn K (.ref XBadSize) (.ref XSheetError) = some true)
    (uBadSizeBadSize : PySem.W.subIn K (.ref XBadSize) (.ref XBadSize) = some true)
    (uBadSizeOffSheet : PySem.W.subIn K (.ref XBadSize) (.ref XOffSheet) = some false)
    (uBadSizeTooDeep : PySem.W.subIn K (.ref XBadSize) (.ref XTooDeep) = some false)
    (uOffSheetSheetError : PySem.W.subIn K (.ref XOffSheet) (.ref XSheetError) = some true)
    (uOffSheetBadSize : PySem.W.subIn K (.ref XOffSheet) (.ref XBadSize) = some false)
    (uOffSheetOffSheet : PySem.W.subIn K (.ref XOffSheet) (.ref XOffSheet) = some true)
    (uOffSheetTooDeep : PySem.W.subIn K (.ref XOffSheet) (.ref XTooDeep) = some false)
    (uTooDeepSheetError : PySem.W.subIn K (.ref XTooDeep) (.ref XSheetError) = some true)
    (uTooDeepBadSize : PySem.W.subIn K (.ref XTooDeep) (.ref XBadSize) = some false)
    (uTooDeepOffSheet : PySem.W.subIn K (.ref XTooDeep) (.ref XOffSheet) = some false)
    (uTooDeepTooDeep : PySem.W.subIn K (.ref XTooDeep) (.ref XTooDeep) = some true)
    (hgEOffSheet : PySem.W.findIn K (.ref XOffSheet) "__getattribute__" = some (some (.builtin "BaseException.__getattribute__"))) (hkEOffSheet : PySem.W.findIn K (.ref XOffSheet) "__getattr__" = some none) (haEOffSheet : PySem.W.findIn K (.ref XOffSheet) "__class__" = some (some (.builtin "object.__class__"))) (hmEOffSheet : PySem.W.mroIn K XOffSheet (.type "object") = some true) (vEOffSheet : PySem.W.subIn K (.ref XOffSheet) (.type "ValueError") = some true)
    (hnE : PySem.W.specialIn K (.builtin "object.__class__") "__get__" = some (some (.builtin "getset_descriptor.__get__"))) (htE : PySem.W.takesIn K (.builtin "object.__class__") = some true)
    (z_ValueError : PySem.W.nsIn K mainGlobals "ValueError" = some none)
    (z_bool : PySem.W.nsIn K mainGlobals "bool" = some none)
    (z_int : PySem.W.nsIn K mainGlobals "int" = some none)
    (z_isinstance : PySem.W.nsIn K mainGlobals "isinstance" = some none)
    (z_len : PySem.W.nsIn K mainGlobals "len" = some none)
    (z_list : PySem.W.nsIn K mainGlobals "list" = some none)
    (z_max : PySem.W.nsIn K mainGlobals "max" = some none)
    (z_min : PySem.W.nsIn K mainGlobals "min" = some none)
    (z_range : PySem.W.nsIn K mainGlobals "range" = some none)
    (z_reversed : PySem.W.nsIn K mainGlobals "reversed" = some none)
    (z_str : PySem.W.nsIn K mainGlobals "str" = some none)
    (z_tuple : PySem.W.nsIn K mainGlobals "tuple" = some none)
    {tkLARGEST : Tok} (giLARGEST : PySem.W.nsIn K mainGlobals "LARGEST" = some (some (.int 12 tkLARGEST)))
    {tkDEEPEST : Tok} (giDEEPEST : PySem.W.nsIn K mainGlobals "DEEPEST" = some (some (.int 8 tkDEEPEST)))
    {r0 : Addr} {es0 : Array DictEntry} {en0 : Nat} (ra0 : PySem.W.nsIn K mainGlobals "RULES_AT" = some (some (.ref r0))) (rl0 : K.lookup r0 = some ⟨.type "dict", none, .dict es0 en0, #[]⟩) (rk0 : PySem.W.KeysLit w.params es0.toList)
    {t0_num : Addr} {ti0_num : Array Value} {tn0_num : Nat} {td0_num : Option Addr} {ts0_num : Array (Option Value)} (te0_num : PySem.W.nsIn K r0 "num" = some (some (.ref t0_num))) (tl0_num : K.lookup t0_num = some ⟨.type "tuple", td0_num, .seq ti0_num tn0_num, ts0_num⟩) (tz0_num : ti0_num.size ≤ sizeLine) (tv0_num : Vals (([] : List Int).map V.int) ti0_num.toList)
    {t0_cell : Addr} {ti0_cell : Array Value} {tn0_cell : Nat} {td0_cell : Option Addr} {ts0_cell : Array (Option Value)} (te0_cell : PySem.W.nsIn K r0 "cell" = some (some (.ref t0_cell))) (tl0_cell : K.lookup t0_cell = some ⟨.type "tuple", td0_cell, .seq ti0_cell tn0_cell, ts0_cell⟩) (tz0_cell : ti0_cell.size ≤ sizeLine) (tv0_cell : Vals (([] : List Int).map V.int) ti0_cell.toList)
    {t0_add : Addr} {ti0_add : Array Value} {tn0_add : Nat} {td0_add : Option Addr} {ts0_add : Array (Option Value)} (te0_add : PySem.W.nsIn K r0 "add" = some (some (.ref t0_add))) (tl0_add : K.lookup t0_add = some ⟨.type "tuple", td0_add, .seq ti0_add tn0_add, ts0_add⟩) (tz0_add : ti0_add.size ≤ sizeLine) (tv0_add : Vals (([1, 2] : List Int).map V.int) ti0_add.toList)
    {t0_sub : Addr} {ti0_sub : Array Value} {tn0_sub : Nat} {td0_sub : Option Addr} {ts0_sub : Array (Option Value)} (te0_sub : PySem.W.nsIn K r0 "sub" = some (some (.ref t0_sub))) (tl0_sub : K.lookup t0_sub = some ⟨.type "tuple", td0_sub, .seq ti0_sub tn0_sub, ts0_sub⟩) (tz0_sub : ti0_sub.size ≤ sizeLine) (tv0_sub : Vals (([1, 2] : List Int).map V.int) ti0_sub.toList)
    {t0_mul : Addr} {ti0_mul : Array Value} {tn0_mul : Nat} {td0_mul : Option Addr} {ts0_mul : Array (Option Value)} (te0_mul : PySem.W.nsIn K r0 "mul" = some (some (.ref t0_mul))) (tl0_mul : K.lookup t0_mul = some ⟨.type "tuple", td0_mul, .seq ti0_mul tn0_mul, ts0_mul⟩) (tz0_mul : ti0_mul.size ≤ sizeLine) (tv0_mul : Vals (([1, 2] : List Int).map V.int) ti0_mul.toList)
    {t0_pick : Addr} {ti0_pick : Array Value} {tn0_pick : Nat} {td0_pick : Option Addr} {ts0_pick : Array (Option Value)} (te0_pick : PySem.W.nsIn K r0 "pick" = some (some (.ref t0_pick))) (tl0_pick : K.lookup t0_pick = some ⟨.type "tuple", td0_pick, .seq ti0_pick tn0_pick, ts0_pick⟩) (tz0_pick : ti0_pick.size ≤ sizeLine) (tv0_pick : Vals (([1, 2, 3] : List Int).map V.int) ti0_pick.toList)
    {t0_sum : Addr} {ti0_sum : Array Value} {tn0_sum : Nat} {td0_sum : Option Addr} {ts0_sum : Array (Option Value)} (te0_sum : PySem.W.nsIn K r0 "sum" = some (some (.ref t0_sum))) (tl0_sum : K.lookup t0_sum = some ⟨.type "tuple", td0_sum, .seq ti0_sum tn0_sum, ts0_sum⟩) (tz0_sum : ti0_sum.size ≤ sizeLine) (tv0_sum : Vals (([] : List Int).map V.int) ti0_sum.toList)
    {t0_most : Addr} {ti0_most : Array Value} {tn0_most : Nat} {td0_most : Option Addr} {ts0_most : Array (Option Value)} (te0_most : PySem.W.nsIn K r0 "most" = some (some (.ref t0_most))) (tl0_most : K.lookup t0_most = some ⟨.type "tuple", td0_most, .seq ti0_most tn0_most, ts0_most⟩) (tz0_most : ti0_most.size ≤ sizeLine) (tv0_most : Vals (([] : List Int).map V.int) ti0_most.toList)
    {t0_look : Addr} {ti0_look : Array Value} {tn0_look : Nat} {td0_look : Option Addr} {ts0_look : Array (Option Value)} (te0_look : PySem.W.nsIn K r0 "look" = some (some (.ref t0_look))) (tl0_look : K.lookup t0_look = some ⟨.type "tuple", td0_look, .seq ti0_look tn0_look, ts0_look⟩) (tz0_look : ti0_look.size ≤ sizeLine) (tv0_look : Vals (([1, 4] : List Int).map V.int) ti0_look.toList)
    {r1 : Addr} {es1 : Array DictEntry} {en1 : Nat} (ra1 : PySem.W.nsIn K mainGlobals "REFERENCES_AT" = some (some (.ref r1))) (rl1 : K.lookup r1 = some ⟨.type "dict", none, .dict es1 en1, #[]⟩) (rk1 : PySem.W.KeysLit w.params es1.toList)
    {t1_num : Addr} {ti1_num : Array Value} {tn1_num : Nat} {td1_num : Option Addr} {ts1_num : Array (Option Value)} (te1_num : PySem.W.nsIn K r1 "num" = some (some (.ref t1_num))) (tl1_num : K.lookup t1_num = some ⟨.type "tuple", td1_num, .seq ti1_num tn1_num, ts1_num⟩) (tz1_num : ti1_num.size ≤ sizeLine) (tv1_num : Vals (([] : List Int).map V.int) ti1_num.toList)
    {t1_cell : Addr} {ti1_cell : Array Value} {tn1_cell : Nat} {td1_cell : Option Addr} {ts1_cell : Array (Option Value)} (te1_cell : PySem.W.nsIn K r1 "cell" = some (some (.ref t1_cell))) (tl1_cell : K.lookup t1_cell = some ⟨.type "tuple", td1_cell, .seq ti1_cell tn1_cell, ts1_cell⟩) (tz1_cell : ti1_cell.size ≤ sizeLine) (tv1_cell : Vals (([1] : List Int).map V.int) ti1_cell.toList)
    {t1_add : Addr} {ti1_add : Array Value} {tn1_add : Nat} {td1_add : Option Addr} {ts1_add : Array (Option Value)} (te1_add : PySem.W.nsIn K r1 "add" = some (some (.ref t1_add))) (tl1_add : K.lookup t1_add = some ⟨.type "tuple", td1_add, .seq ti1_add tn1_add, ts1_add⟩) (tz1_add : ti1_add.size ≤ sizeLine) (tv1_add : Vals (([] : List Int).map V.int) ti1_add.toList)
    {t1_sub : Addr} {ti1_sub : Array Value} {tn1_sub : Nat} {td1_sub : Option Addr} {ts1_sub : Array (Option Value)} (te1_sub : PySem.W.nsIn K r1 "sub" = some (some (.ref t1_sub))) (tl1_sub : K.lookup t1_sub = some ⟨.type "tuple", td1_sub, .seq ti1_sub tn1_sub, ts1_sub⟩) (tz1_sub : ti1_sub.size ≤ sizeLine) (tv1_sub : Vals (([] : List Int).map V.int) ti1_sub.toList)
    {t1_mul : Addr} {ti1_mul : Array Value} {tn1_mul : Nat} {td1_mul : Option Addr} {ts1_mul : Array (Option Value)} (te1_mul : PySem.W.nsIn K r1 "mul" = some (some (.ref t1_mul))) (tl1_mul : K.lookup t1_mul = some ⟨.type "tuple", td1_mul, .seq ti1_mul tn1_mul, ts1_mul⟩) (tz1_mul : ti1_mul.size ≤ sizeLine) (tv1_mul : Vals (([] : List Int).map V.int) ti1_mul.toList)
    {t1_pick : Addr} {ti1_pick : Array Value} {tn1_pick : Nat} {td1_pick : Option Addr} {ts1_pick : Array (Option Value)} (te1_pick : PySem.W.nsIn K r1 "pick" = some (some (.ref t1_pick))) (tl1_pick : K.lookup t1_pick = some ⟨.type "tuple", td1_pick, .seq ti1_pick tn1_pick, ts1_pick⟩) (tz1_pick : ti1_pick.size ≤ sizeLine) (tv1_pick : Vals (([] : List Int).map V.int) ti1_pick.toList)
    {t1_sum : Addr} {ti1_sum : Array Value} {tn1_sum : Nat} {td1_sum : Option Addr} {ts1_sum : Array (Option Value)} (te1_sum : PySem.W.nsIn K r1 "sum" = some (some (.ref t1_sum))) (tl1_sum : K.lookup t1_sum = some ⟨.type "tuple", td1_sum, .seq ti1_sum tn1_sum, ts1_sum⟩) (tz1_sum : ti1_sum.size ≤ sizeLine) (tv1_sum : Vals (([1, 2] : List Int).map V.int) ti1_sum.toList)
    {t1_most : Addr} {ti1_most : Array Value} {tn1_most : Nat} {td1_most : Option Addr} {ts1_most : Array (Option Value)} (te1_most : PySem.W.nsIn K r1 "most" = some (some (.ref t1_most))) (tl1_most : K.lookup t1_most = some ⟨.type "tuple", td1_most, .seq ti1_most tn1_most, ts1_most⟩) (tz1_most : ti1_most.size ≤ sizeLine) (tv1_most : Vals (([1, 2] : List Int).map V.int) ti1_most.toList)
    {t1_look : Addr} {ti1_look : Array Value} {tn1_look : Nat} {td1_look : Option Addr} {ts1_look : Array (Option Value)} (te1_look : PySem.W.nsIn K r1 "look" = some (some (.ref t1_look))) (tl1_look : K.lookup t1_look = some ⟨.type "tuple", td1_look, .seq ti1_look tn1_look, ts1_look⟩) (tz1_look : ti1_look.size ≤ sizeLine) (tv1_look : Vals (([2, 3] : List Int).map V.int) ti1_look.toList)
    : ∃ fd : FuncData, (∀ (s : Shared) (v : Value), BindsTo s fd ⟨[v], []⟩ [("_law_script", v)]) ∧ ∀ base : Heap, K.In base → base.Ns mainGlobals mg → FnOk l.prog w K mg base CX0 70 fa fd ["_law_script"] (spLaw K) := by
  have e := hfa.symm.trans (PySem.W.mg_of X G a33)
  cases e
  refine ⟨PySem.W.fnOf "law" "law" (defArgs s_law) (defBody s_law) (defScope s_law) .none kV33 dc33 pm33 an33 cd33 ct33, fun s v => .of_eq rfl, fun base _ _ => ok_law ({
    c_Sheet := CSheet, m_Sheet := PySem.W.mg_of X G gCSheet, cl_Sheet := ⟨pgSheet, hdSheet, poSheet, saSheet⟩,
    n_Sheet_high := nASheethigh,
    n_Sheet_wide := nASheetwide,
    n_Sheet_rules := nASheetrules,
    a_area := _, d_area := _, F_area := fun_mk (st := s_area) l0 c0 k0, b_area := (fun_mk (st := s_area) l0 c0 k0).binds (ps := ["one", "two"]) fun _ _ _ _ _ _ us hl => match us, hl with | [_, _], _ => rfl,
    m_area := PySem.W.mg_of X G a0,
    a_inner_rules := _, d_inner_rules := _, F_inner_rules := fun_mk (st := s_inner_rules) l1 c1 k1, b_inner_rules := (fun_mk (st := s_inner_rules) l1 c1 k1).binds (ps := ["rule"]) fun _ _ _ _ _ _ us hl => match us, hl with | [_], _ => rfl,
    m_inner_rules := PySem.W.mg_of X G a1,
    a_references := _, d_references := _, F_references := fun_mk (st := s_references) l2 c2 k2, b_references := (fun_mk (st := s_references) l2 c2 k2).binds (ps := ["rule"]) fun _ _ _ _ _ _ us hl => match us, hl with | [_], _ => rfl,
    m_references := PySem.W.mg_of X G a2,
    a_outer_first := _, d_outer_first := _, F_outer_first := fun_mk (st := s_outer_first) l3 c3 k3, b_outer_first := (fun_mk (st := s_outer_first) l3 c3 k3).binds (ps := ["rule"]) fun _ _ _ _ _ _ us hl => match us, hl with | [_], _ => rfl,
    m_outer_first := PySem.W.mg_of X G a3,
    a_all_references := _, d_all_references := _, F_all_references := fun_mk (st := s_all_references) l4 c4 k4, b_all_references := (fun_mk (st := s_all_references) l4 c4 k4).binds (ps := ["rule"]) fun _ _ _ _ _ _ us hl => match us, hl with | [_], _ => rfl,
    m_all_references := PySem.W.mg_of X G a4,
    a_deep := _, d_deep := _, F_deep := fun_mk (st := s_deep) l5 c5 k5, b_deep := (fun_mk (st := s_deep) l5 c5 k5).binds (ps := ["rule"]) fun _ _ _ _ _ _ us hl => match us, hl with | [_], _ => rfl,
    m_deep := PySem.W.mg_of X G a5,
    a_moved := _, d_moved := _, F_moved := fun_mk (st := s_moved) l6 c6 k6, b_moved := (fun_mk (st := s_moved) l6 c6 k6).binds (ps := ["reference", "down", "right"]) fun _ _ _ _ _ _ us hl => match us, hl with | [_, _, _], _ => rfl,
    m_moved := PySem.W.mg_of X G a6,
    a_shifted := _, d_shifted := _, F_shifted := fun_mk (st := s_shifted) l7 c7 k7, b_shifted := (fun_mk (st := s_shifted) l7 c7 k7).binds (ps := ["rule", "down", "right"]) fun _ _ _ _ _ _ us hl => match us, hl with | [_, _, _], _ => rfl,
    m_shifted := PySem.W.mg_of X G a7,
    a_Sheet_init := _, d_Sheet_init := _, F_Sheet_init := fun_mk (st := s_Sheet_init) l8 c8 k8, b_Sheet_init := (fun_mk (st := s_Sheet_init) l8 c8 k8).binds (ps := ["self", "high", "wide"]) fun _ _ _ _ _ _ us hl => match us, hl with | [_, _, _], _ => rfl,
    K_Sheet := ⟨mkSheet, a8, i8, kpSheet⟩,
    a_Sheet_places := _, d_Sheet_places := _, F_Sheet_places := fun_mk (st := s_Sheet_places) l9 c9 k9, b_Sheet_places := (fun_mk (st := s_Sheet_places) l9 c9 k9).binds (ps := ["self"]) fun _ _ _ _ _ _ us hl => match us, hl with | [_], _ => rfl,
    M_Sheet_places := ⟨a9, i9, k9⟩,
    a_Sheet_rule := _, d_Sheet_rule := _, F_Sheet_rule := fun_mk (st := s_Sheet_rule) l10 c10 k10, b_Sheet_rule := (fun_mk (st := s_Sheet_rule) l10 c10 k10).binds (ps := ["self", "place"]) fun _ _ _ _ _ _ us hl => match us, hl with | [_, _], _ => rfl,
    M_Sheet_rule := ⟨a10, i10, k10⟩,
    a_Sheet_put := _, d_Sheet_put := _, F_Sheet_put := fun_mk (st := s_Sheet_put) l11 c11 k11, b_Sheet_put := (fun_mk (st := s_Sheet_put) l11 c11 k11).binds (ps := ["self", "place", "rule"]) fun _ _ _ _ _ _ us hl => match us, hl with | [_, _, _], _ => rfl,
    M_Sheet_put := ⟨a11, i11, k11⟩,
    a_Sheet_copied := _, d_Sheet_copied := _, F_Sheet_copied := fun_mk (st := s_Sheet_copied) l12 c12 k12, b_Sheet_copied := (fun_mk (st := s_Sheet_copied) l12 c12 k12).binds (ps := ["self", "source", "target"]) fun _ _ _ _ _ _ us hl => match us, hl with | [_, _, _], _ => rfl,
    M_Sheet_copied := ⟨a12, i12, k12⟩,
    a_Sheet_filled := _, d_Sheet_filled := _, F_Sheet_filled := fun_mk (st := s_Sheet_filled) l13 c13 k13, b_Sheet_filled := (fun_mk (st := s_Sheet_filled) l13 c13 k13).binds (ps := ["self", "source", "one", "two"]) fun _ _ _ _ _ _ us hl => match us, hl with | [_, _, _, _], _ => rfl,
    M_Sheet_filled := ⟨a13, i13, k13⟩,
    a_Sheet_copy := _, d_Sheet_copy := _, F_Sheet_copy := fun_mk (st := s_Sheet_copy) l14 c14 k14, b_Sheet_copy := (fun_mk (st := s_Sheet_copy) l14 c14 k14).binds (ps := ["self", "source", "target"]) fun _ _ _ _ _ _ us hl => match us, hl with | [_, _, _], _ => rfl,
    M_Sheet_copy := ⟨a14, i14, k14⟩,
    a_Sheet_refuse_references_off := _, d_Sheet_refuse_references_off := _, F_Sheet_refuse_references_off := fun_mk (st := s_Sheet_refuse_references_off) l15 c15 k15, b_Sheet_refuse_references_off := (fun_mk (st := s_Sheet_refuse_references_off) l15 c15 k15).binds (ps := ["self", "rule"]) fun _ _ _ _ _ _ us hl => match us, hl with | [_, _], _ => rfl,
    M_Sheet_refuse_references_off := ⟨a15, i15, k15⟩,
    a_Sheet_refuse_off := _, d_Sheet_refuse_off := _, F_Sheet_refuse_off := fun_mk (st := s_Sheet_refuse_off) l16 c16 k16, b_Sheet_refuse_off := (fun_mk (st := s_Sheet_refuse_off) l16 c16 k16).binds (ps := ["self", "place"]) fun _ _ _ _ _ _ us hl => match us, hl with | [_, _], _ => rfl,
    M_Sheet_refuse_off := ⟨a16, i16, k16⟩,
    a__law_cell_at := _, d__law_cell_at := _, F__law_cell_at := fun_mk (st := s__law_cell_at) l17 c17 k17, b__law_cell_at := (fun_mk (st := s__law_cell_at) l17 c17 k17).binds (ps := ["_law_script", "_law_k"]) fun _ _ _ _ _ _ us hl => match us, hl with | [_, _], _ => rfl,
    m__law_cell_at := PySem.W.mg_of X G a17,
    a__law_ref_by := _, d__law_ref_by := _, F__law_ref_by := fun_mk (st := s__law_ref_by) l18 c18 k18, b__law_ref_by := (fun_mk (st := s__law_ref_by) l18 c18 k18).binds (ps := ["_law_cell", "_law_high", "_law_wide"]) fun _ _ _ _ _ _ us hl => match us, hl with | [_, _, _], _ => rfl,
    m__law_ref_by := PySem.W.mg_of X G a18,
    a__law_leaf_by := _, d__law_leaf_by := _, F__law_leaf_by := fun_mk (st := s__law_leaf_by) l19 c19 k19, b__law_leaf_by := (fun_mk (st := s__law_leaf_by) l19 c19 k19).binds (ps := ["_law_cell", "_law_high", "_law_wide"]) fun _ _ _ _ _ _ us hl => match us, hl with | [_, _, _], _ => rfl,
    m__law_leaf_by := PySem.W.mg_of X G a19,
    a__law_rule_by := _, d__law_rule_by := _, F__law_rule_by := fun_mk (st := s__law_rule_by) l20 c20 k20, b__law_rule_by := (fun_mk (st := s__law_rule_by) l20 c20 k20).binds (ps := ["_law_cell", "_law_high", "_law_wide"]) fun _ _ _ _ _ _ us hl => match us, hl with | [_, _, _], _ => rfl,
    m__law_rule_by := PySem.W.mg_of X G a20,
    a__law_same := _, d__law_same := _, F__law_same := fun_mk (st := s__law_same) l21 c21 k21, b__law_same := (fun_mk (st := s__law_same) l21 c21 k21).binds (ps := ["_law_found", "_law_due_here"]) fun _ _ _ _ _ _ us hl => match us, hl with | [_, _], _ => rfl,
    m__law_same := PySem.W.mg_of X G a21,
    a__law_wrapped := _, d__law_wrapped := _, F__law_wrapped := fun_mk (st := s__law_wrapped) l22 c22 k22, b__law_wrapped := (fun_mk (st := s__law_wrapped) l22 c22 k22).binds (ps := ["_law_rule", "_law_cell", "_law_many"]) fun _ _ _ _ _ _ us hl => match us, hl with | [_, _, _], _ => rfl,
    m__law_wrapped := PySem.W.mg_of X G a22,
    a__law_is_ref := _, d__law_is_ref := _, F__law_is_ref := fun_mk (st := s__law_is_ref) l23 c23 k23, b__law_is_ref := (fun_mk (st := s__law_is_ref) l23 c23 k23).binds (ps := ["_law_part"]) fun _ _ _ _ _ _ us hl => match us, hl with | [_], _ => rfl,
    m__law_is_ref := PySem.W.mg_of X G a23,
    a__law_moved := _, d__law_moved := _, F__law_moved := fun_mk (st := s__law_moved) l24 c24 k24, b__law_moved := (fun_mk (st := s__law_moved) l24 c24 k24).binds (ps := ["_law_part", "_law_down", "_law_right"]) fun _ _ _ _ _ _ us hl => match us, hl with | [_, _, _], _ => rfl,
    m__law_moved := PySem.W.mg_of X G a24,
    a__law_lies := _, d__law_lies := _, F__law_lies := fun_mk (st := s__law_lies) l25 c25 k25, b__law_lies := (fun_mk (st := s__law_lies) l25 c25 k25).binds (ps := ["_law_part", "_law_high", "_law_wide"]) fun _ _ _ _ _ _ us hl => match us, hl with | [_, _, _], _ => rfl,
    m__law_lies := PySem.W.mg_of X G a25,
    a__law_drawn_rule := _, d__law_drawn_rule := _, F__law_drawn_rule := fun_mk (st := s__law_drawn_rule) l26 c26 k26, b__law_drawn_rule := (fun_mk (st := s__law_drawn_rule) l26 c26 k26).binds (ps := ["_law_script", "_law_k", "_law_high", "_law_wide"]) fun _ _ _ _ _ _ us hl => match us, hl with | [_, _, _, _], _ => rfl,
    m__law_drawn_rule := PySem.W.mg_of X G a26,
    a__law_on := _, d__law_on := _, F__law_on := fun_mk (st := s__law_on) l27 c27 k27, b__law_on := (fun_mk (st := s__law_on) l27 c27 k27).binds (ps := ["_law_place", "_law_high", "_law_wide"]) fun _ _ _ _ _ _ us hl => match us, hl with | [_, _, _], _ => rfl,
    m__law_on := PySem.W.mg_of X G a27,
    a__law_due := _, d__law_due := _, F__law_due := fun_mk (st := s__law_due) l28 c28 k28, b__law_due := (fun_mk (st := s__law_due) l28 c28 k28).binds (ps := ["_law_kept", "_law_corners_here", "_law_high", "_law_wide"]) fun _ _ _ _ _ _ us hl => match us, hl with | [_, _, _, _], _ => rfl,
    m__law_due := PySem.W.mg_of X G a28,
    a__law_done := _, d__law_done := _, F__law_done := fun_mk (st := s__law_done) l29 c29 k29, b__law_done := (fun_mk (st := s__law_done) l29 c29 k29).binds (ps := ["_law_sheet", "_law_corners_here", "_law_alone"]) fun _ _ _ _ _ _ us hl => match us, hl with | [_, _, _], _ => rfl,
    m__law_done := PySem.W.mg_of X G a29,
    a__law_refused_by_any := _, d__law_refused_by_any := _, F__law_refused_by_any := fun_mk (st := s__law_refused_by_any) l30 c30 k30, b__law_refused_by_any := (fun_mk (st := s__law_refused_by_any) l30 c30 k30).binds (ps := ["_law_sheet", "_law_corners_here", "_law_alone"]) fun _ _ _ _ _ _ us hl => match us, hl with | [_, _, _], _ => rfl,
    m__law_refused_by_any := PySem.W.mg_of X G a30,
    a__law_corners := _, d__law_corners := _, F__law_corners := fun_mk (st := s__law_corners) l31 c31 k31, b__law_corners := (fun_mk (st := s__law_corners) l31 c31 k31).binds (ps := ["_law_script", "_law_turn", "_law_high", "_law_wide"]) fun _ _ _ _ _ _ us hl => match us, hl with | [_, _, _, _], _ => rfl,
    m__law_corners := PySem.W.mg_of X G a31,
    a__law_holds := _, d__law_holds := _, F__law_holds := fun_mk (st := s__law_holds) l32 c32 k32, b__law_holds := (fun_mk (st := s__law_holds) l32 c32 k32).binds (ps := ["_law_sheet", "_law_kept"]) fun _ _ _ _ _ _ us hl => match us, hl with | [_, _], _ => rfl,
    m__law_holds := PySem.W.mg_of X G a32,
    a_law := _, d_law := _, F_law := fun_mk (st := s_law) l33 c33 k33, b_law := (fun_mk (st := s_law) l33 c33 k33).binds (ps := ["_law_script"]) fun _ _ _ _ _ _ us hl => match us, hl with | [_], _ => rfl,
    m_law := PySem.W.mg_of X G a33,
    c_SheetError := XSheetError, g_SheetError := PySem.W.mg_of X G gXSheetError,
    c_BadSize := XBadSize, g_BadSize := PySem.W.mg_of X G gXBadSize,
    x_BadSize := eXBadSize, k_BadSize := kXBadSize, sb_BadSize := sXBadSize, ty_BadSize := tXBadSize,
    c_OffSheet := XOffSheet, g_OffSheet := PySem.W.mg_of X G gXOffSheet,
    x_OffSheet := eXOffSheet, k_OffSheet := kXOffSheet, sb_OffSheet := sXOffSheet, ty_OffSheet := tXOffSheet,
    c_TooDeep := XTooDeep, g_TooDeep := PySem.W.mg_of X G gXTooDeep,
    x_TooDeep := eXTooDeep, k_TooDeep := kXTooDeep, sb_TooDeep := sXTooDeep, ty_TooDeep := tXTooDeep,
    e_BadSize_SheetError := PySem.W.exm_ref sXSheetError dXSheetError tXSheetError uBadSizeSheetError,
    e_BadSize_BadSize := PySem.W.exm_ref sXBadSize dXBadSize tXBadSize uBadSizeBadSize,
    e_BadSize_OffSheet := PySem.W.exm_ref sXOffSheet dXOffSheet tXOffSheet uBadSizeOffSheet,
    e_BadSize_TooDeep := PySem.W.exm_ref sXTooDeep dXTooDeep tXTooDeep uBadSizeTooDeep,
    e_OffSheet_SheetError := PySem.W.exm_ref sXSheetError dXSheetError tXSheetError uOffSheetSheetError,
    e_OffSheet_BadSize := PySem.W.exm_ref sXBadSize dXBadSize tXBadSize uOffSheetBadSize,
    e_OffSheet_OffSheet := PySem.W.exm_ref sXOffSheet dXOffSheet tXOffSheet uOffSheetOffSheet,
    e_OffSheet_TooDeep := PySem.W.exm_ref sXTooDeep dXTooDeep tXTooDeep uOffSheetTooDeep,
    e_TooDeep_SheetError := PySem.W.exm_ref sXSheetError dXSheetError tXSheetError uTooDeepSheetError,
    e_TooDeep_BadSize := PySem.W.exm_ref sXBadSize dXBadSize tXBadSize uTooDeepBadSize,
    e_TooDeep_OffSheet := PySem.W.exm_ref sXOffSheet dXOffSheet tXOffSheet uTooDeepOffSheet,
    e_TooDeep_TooDeep := PySem.W.exm_ref sXTooDeep dXTooDeep tXTooDeep uTooDeepTooDeep,
    xc_OffSheet := ⟨hgEOffSheet, hkEOffSheet, sXOffSheet, dXOffSheet, haEOffSheet, hnE, htE, hmEOffSheet⟩, v_OffSheet := Pv.kit_val vEOffSheet,
    z_ValueError := PySem.W.mg_none_of X G z_ValueError,
    z_bool := PySem.W.mg_none_of X G z_bool,
    z_int := PySem.W.mg_none_of X G z_int,
    z_isinstance := PySem.W.mg_none_of X G z_isinstance,
    z_len := PySem.W.mg_none_of X G z_len,
    z_list := PySem.W.mg_none_of X G z_list,
    z_max := PySem.W.mg_none_of X G z_max,
    z_min := PySem.W.mg_none_of X G z_min,
    z_range := PySem.W.mg_none_of X G z_range,
    z_reversed := PySem.W.mg_none_of X G z_reversed,
    z_str := PySem.W.mg_none_of X G z_str,
    z_tuple := PySem.W.mg_none_of X G z_tuple,
    t_LARGEST := tkLARGEST, m_LARGEST := PySem.W.mg_of X G giLARGEST,
    t_DEEPEST := tkDEEPEST, m_DEEPEST := PySem.W.mg_of X G giDEEPEST,
    r_RULES_AT := r0, m_RULES_AT := PySem.W.mg_of X G ra0,
    D_RULES_AT_num := dtab_mk rl0 rk0 te0_num tl0_num tz0_num tv0_num,
    D_RULES_AT_cell := dtab_mk rl0 rk0 te0_cell tl0_cell tz0_cell tv0_cell,
    D_RULES_AT_add := dtab_mk rl0 rk0 te0_add tl0_add tz0_add tv0_add,
    D_RULES_AT_sub := dtab_mk rl0 rk0 te0_sub tl0_sub tz0_sub tv0_sub,
    D_RULES_AT_mul := dtab_mk rl0 rk0 te0_mul tl0_mul tz0_mul tv0_mul,
    D_RULES_AT_pick := dtab_mk rl0 rk0 te0_pick tl0_pick tz0_pick tv0_pick,
    D_RULES_AT_sum := dtab_mk rl0 rk0 te0_sum tl0_sum tz0_sum tv0_sum,
    D_RULES_AT_most := dtab_mk rl0 rk0 te0_most tl0_most tz0_most tv0_most,
    D_RULES_AT_look := dtab_mk rl0 rk0 te0_look tl0_look tz0_look tv0_look,
    r_REFERENCES_AT := r1, m_REFERENCES_AT := PySem.W.mg_of X G ra1,
    D_REFERENCES_AT_num := dtab_mk rl1 rk1 te1_num tl1_num tz1_num tv1_num,
    D_REFERENCES_AT_cell := dtab_mk rl1 rk1 te1_cell tl1_cell tz1_cell tv1_cell,
    D_REFERENCES_AT_add := dtab_mk rl1 rk1 te1_add tl1_add tz1_add tv1_add,
    D_REFERENCES_AT_sub := dtab_mk rl1 rk1 te1_sub tl1_sub tz1_sub tv1_sub,
    D_REFERENCES_AT_mul := dtab_mk rl1 rk1 te1_mul tl1_mul tz1_mul tv1_mul,
    D_REFERENCES_AT_pick := dtab_mk rl1 rk1 te1_pick tl1_pick tz1_pick tv1_pick,
    D_REFERENCES_AT_sum := dtab_mk rl1 rk1 te1_sum tl1_sum tz1_sum tv1_sum,
    D_REFERENCES_AT_most := dtab_mk rl1 rk1 te1_most tl1_most tz1_most tv1_most,
    D_REFERENCES_AT_look := dtab_mk rl1 rk1 te1_look tl1_look tz1_look tv1_look } : Top K mg w)⟩
end K06
open PySem PySem.W PyProof.Rows
set_option maxRecDepth 100000 in
set_option maxHeartbeats 0 in
theorem PySem.Challenge.cw_rulesheet_k06_copied_and_filled_holds : PySem.Challenge.rw_rulesheet_k06_copied_and_filled.Holds := by
  w_on; o_law; k_head; (case hw => w_witness2)
  k_fill
  refine L2.walk_of (l := PySem.Challenge.rw_rulesheet_k06_copied_and_filled) (n := 63) (k := 70) (x := "_law_script") (CX := fun _ => L2.CX0) (sp := fun w => K06.spLaw _) rfl (by decide) rfl ⟨rfl, by decide, by decide⟩ (fun w h Y => PySem.W.kIn_of Y) ?F (fun a H b ns hl _ hS => K06.law_in hl hS) (fun _ _ _ _ _ h => h)
  case F =>
    intro w mg fa h KX G hmg
    refine' K06.all_mk KX G hmg ?gCSheet ?pgSheet ?hdSheet ?poSheet ?saSheet ?mkSheet ?kpSheet ?nASheethigh ?nASheetwide ?nASheetrules ?a0 ?l0 ?c0 ?k0 ?a1 ?l1 ?c1 ?k1 ?a2 ?l2 ?c2 ?k2 ?a3 ?l3 ?c3 ?k3 ?a4 ?l4 ?c4 ?k4 ?a5 ?l5 ?c5 ?k5 ?a6 ?l6 ?c6 ?k6 ?a7 ?l7 ?c7 ?k7 ?a8 ?i8 ?l8 ?c8 ?k8 ?a9 ?i9 ?l9 ?c9 ?k9 ?a10 ?i10 ?l10 ?c10 ?k10 ?a11 ?i11 ?l11 ?c11 ?k11 ?a12 ?i12 ?l12 ?c12 ?k12 ?a13 ?i13 ?l13 ?c13 ?k13 ?a14 ?i14 ?l14 ?c14 ?k14 ?a15 ?i15 ?l15 ?c15 ?k15 ?a16 ?i16 ?l16 ?c16 ?k16 ?a17 ?l17 ?c17 ?k17 ?a18 ?l18 ?c18 ?k18 ?a19 ?l19 ?c19 ?k19 ?a20 ?l20 ?c20 ?k20 ?a21 ?l21 ?c21 ?k21 ?a22 ?l22 ?c22 ?k22 ?a23 ?l23 ?c23 ?k23 ?a24 ?l24 ?c24 ?k24 ?a25 ?l25 ?c25 ?k25 ?a26 ?l26 ?c26 ?k26 ?a27 ?l27 ?c27 ?k27 ?a28 ?l28 ?c28 ?k28 ?a29 ?l29 ?c29 ?k29 ?a30 ?l30 ?c30 ?k30 ?a31 ?l31 ?c31 ?k31 ?a32 ?l32 ?c32 ?k32 ?a33 ?l33 ?c33 ?k33 ?gXSheetError ?sXSheetError ?tXSheetError ?dXSheetError ?gXBadSize ?sXBadSize ?tXBadSize ?dXBadSize ?eXBadSize ?kXBadSize ?gXOffSheet ?sXOffSheet ?tXOffSheet ?dXOffSheet ?eXOffSheet ?kXOffSheet ?gXTooDeep ?sXTooDeep ?tXTooDeep ?dXTooDeep ?eXTooDeep ?kXTooDeep ?uBadSizeSheetError ?uBadSizeBadSize ?uBadSizeOffSheet ?uBadSizeTooDeep ?uOffSheetSheetError ?uOffSheetBadSize ?uOffSheetOffSheet ?uOffSheetTooDeep ?uTooDeepSheetError ?uTooDeepBadSize ?uTooDeepOffSheet ?uTooDeepTooDeep ?hgEOffSheet ?hkEOffSheet ?haEOffSheet ?hmEOffSheet ?vEOffSheet ?hnE ?htE ?z_ValueError ?z_bool ?z_int ?z_isinstance ?z_len ?z_list ?z_max ?z_min ?z_range ?z_reversed ?z_str ?z_tuple ?giLARGEST ?giDEEPEST ?ra0 ?rl0 ?rk0 ?te0_num ?tl0_num ?tz0_num ?tv0_num ?te0_cell ?tl0_cell ?tz0_cell ?tv0_cell ?te0_add ?tl0_add ?tz0_add ?tv0_add ?te0_sub ?tl0_sub ?tz0_sub ?tv0_sub ?te0_mul ?tl0_mul ?tz0_mul ?tv0_mul ?te0_pick ?tl0_pick ?tz0_pick ?tv0_pick ?te0_sum ?tl0_sum ?tz0_sum ?tv0_sum ?te0_most ?tl0_most ?tz0_most ?tv0_most ?te0_look ?tl0_look ?tz0_look ?tv0_look ?ra1 ?rl1 ?rk1 ?te1_num ?tl1_num ?tz1_num ?tv1_num ?te1_cell ?tl1_cell ?tz1_cell ?tv1_cell ?te1_add ?tl1_add ?tz1_add ?tv1_add ?te1_sub ?tl1_sub ?tz1_sub ?tv1_sub ?te1_mul ?tl1_mul ?tz1_mul ?tv1_mul ?te1_pick ?tl1_pick ?tz1_pick ?tv1_pick ?te1_sum ?tl1_sum ?tz1_sum ?tv1_sum ?te1_most ?tl1_most ?tz1_most ?tv1_most ?te1_look ?tl1_look ?tz1_look ?tv1_look
    (case gCSheet => k_is)
    (case pgSheet => k_is)
    (case hdSheet => k_is)
    (case poSheet => k_is)
    (case saSheet => k_is)
    (case mkSheet => k_is)
    (case kpSheet => k_is)
    (case nASheethigh => k_is)
    (case nASheetwide => k_is)
    (case nASheetrules => k_is)
    (case a0 => k_is)
    (case l0 => k_is)
    (case c0 => k_is)
    (case k0 => k_is)
    (case a1 => k_is)
    (case l1 => k_is)
    (case c1 => k_is)
    (case k1 => k_is)
    (case a2 => k_is)
    (case l2 => k_is)
    (case c2 => k_is)
    (case k2 => k_is)
    (case a3 => k_is)
    (case l3 => k_is)
    (case c3 => k_is)
    (case k3 => k_is)
    (case a4 => k_is)
    (case l4 => k_is)
    (case c4 => k_is)
    (case k4 => k_is)
    (case a5 => k_is)
    (case l5 => k_is)
    (case c5 => k_is)
    (case k5 => k_is)
    (case a6 => k_is)
    (case l6 => k_is)
    (case c6 => k_is)
    (case k6 => k_is)
    (case a7 => k_is)
    (case l7 => k_is)
    (case c7 => k_is)
    (case k7 => k_is)
    (case a8 => k_is)
    (case i8 => k_is)
    (case l8 => k_is)
    (case c8 => k_is)
    (case k8 => k_is)
    (case a9 => k_is)
    (case i9 => k_is)
    (case l9 => k_is)
    (case c9 => k_is)
    (case k9 => k_is)
    (case a10 => k_is)
    (case i10 => k_is)
    (case l10 => k_is)
    (case c10 => k_is)
    (case k10 => k_is)
    (case a11 => k_is)
    (case i11 => k_is)
    (case l11 => k_is)
    (case c11 => k_is)
    (case k11 => k_is)
    (case a12 => k_is)
    (case i12 => k_is)
    (case l12 => k_is)
    (case c12 => k_is)
    (case k12 => k_is)
    (case a13 => k_is)
    (case i13 => k_is)
    (case l13 => k_is)
    (case c13 => k_is)
    (case k13 => k_is)
    (case a14 => k_is)
    (case i14 => k_is)
    (case l14 => k_is)
    (case c14 => k_is)
    (case k14 => k_is)
    (case a15 => k_is)
    (case i15 => k_is)
    (case l15 => k_is)
    (case c15 => k_is)
    (case k15 => k_is)
    (case a16 => k_is)
    (case i16 => k_is)
    (case l16 => k_is)
    (case c16 => k_is)
    (case k16 => k_is)
    (case a17 => k_is)
    (case l17 => k_is)
    (case c17 => k_is)
    (case k17 => k_is)
    (case a18 => k_is)
    (case l18 => k_is)
    (case c18 => k_is)
    (case k18 => k_is)
    (case a19 => k_is)
    (case l19 => k_is)
    (case c19 => k_is)
    (case k19 => k_is)
    (case a20 => k_is)
    (case l20 => k_is)
    (case c20 => k_is)
    (case k20 => k_is)
    (case a21 => k_is)
    (case l21 => k_is)
    (case c21 => k_is)
    (case k21 => k_is)
    (case a22 => k_is)
    (case l22 => k_is)
    (case c22 => k_is)
    (case k22 => k_is)
    (case a23 => k_is)
    (case l23 => k_is)
    (case c23 => k_is)
    (case k23 => k_is)
    (case a24 => k_is)
    (case l24 => k_is)
    (case c24 => k_is)
    (case k24 => k_is)
    (case a25 => k_is)
    (case l25 => k_is)
    (case c25 => k_is)
    (case k25 => k_is)
    (case a26 => k_is)
    (case l26 => k_is)
    (case c26 => k_is)
    (case k26 => k_is)
    (case a27 => k_is)
    (case l27 => k_is)
    (case c27 => k_is)
    (case k27 => k_is)
    (case a28 => k_is)
    (case l28 => k_is)
    (case c28 => k_is)
    (case k28 => k_is)
    (case a29 => k_is)
    (case l29 => k_is)
    (case c29 => k_is)
    (case k29 => k_is)
    (case a30 => k_is)
    (case l30 => k_is)
    (case c30 => k_is)
    (case k30 => k_is)
    (case a31 => k_is)
    (case l31 => k_is)
    (case c31 => k_is)
    (case k31 => k_is)
    (case a32 => k_is)
    (case l32 => k_is)
    (case c32 => k_is)
    (case k32 => k_is)
    (case a33 => k_is)
    (case l33 => k_is)
    (case c33 => k_is)
    (case k33 => k_is)
    (case gXSheetError => k_is)
    (case sXSheetError => k_is)
    (case tXSheetError => k_is)
    (case dXSheetError => k_is)
    (case gXBadSize => k_is)
    (case sXBadSize => k_is)
    (case tXBadSize => k_is)
    (case dXBadSize => k_is)
    (case eXBadSize => k_exc)
    (case kXBadSize => k_is)
    (case gXOffSheet => k_is)
    (case sXOffSheet => k_is)
    (case tXOffSheet => k_is)
    (case dXOffSheet => k_is)
    (case eXOffSheet => k_exc)
    (case kXOffSheet => k_is)
    (case gXTooDeep => k_is)
    (case sXTooDeep => k_is)
    (case tXTooDeep => k_is)
    (case dXTooDeep => k_is)
    (case eXTooDeep => k_exc)
    (case kXTooDeep => k_is)
    (case uBadSizeSheetError => first | rfl | k_is)
    (case uBadSizeBadSize => first | rfl | k_is)
    (case uBadSizeOffSheet => first | rfl | k_is)
    (case uBadSizeTooDeep => first | rfl | k_is)
    (case uOffSheetSheetError => first | rfl | k_is)
    (case uOffSheetBadSize => first | rfl | k_is)
    (case uOffSheetOffSheet => first | rfl | k_is)
    (case uOffSheetTooDeep => first | rfl | k_is)
    (case uTooDeepSheetError => first | rfl | k_is)
    (case uTooDeepBadSize => first | rfl | k_is)
    (case uTooDeepOffSheet => first | rfl | k_is)
    (case uTooDeepTooDeep => first | rfl | k_is)
    (case hgEOffSheet => k_is)
    (case hkEOffSheet => k_is)
    (case haEOffSheet => k_is)
    (case hmEOffSheet => k_is)
    (case vEOffSheet => k_is)
    (case hnE => k_is)
    (case htE => k_is)
    (case z_ValueError => k_is)
    (case z_bool => k_is)
    (case z_int => k_is)
    (case z_isinstance => k_is)
    (case z_len => k_is)
    (case z_list => k_is)
    (case z_max => k_is)
    (case z_min => k_is)
    (case z_range => k_is)
    (case z_reversed => k_is)
    (case z_str => k_is)
    (case z_tuple => k_is)
    (case giLARGEST => k_is)
    (case giDEEPEST => k_is)
    (case ra0 => k_is)
    (case rl0 => k_is)
    (case rk0 => k_keys)
    (case te0_num => k_is)
    (case tl0_num => k_is)
    (case tz0_num => exact Nat.le_of_ble_eq_true rfl)
    (case tv0_num => exact .nil)
    (case te0_cell => k_is)
    (case tl0_cell => k_is)
    (case tz0_cell => exact Nat.le_of_ble_eq_true rfl)
    (case tv0_cell => exact .nil)
    (case te0_add => k_is)
    (case tl0_add => k_is)
    (case tz0_add => exact Nat.le_of_ble_eq_true rfl)
    (case tv0_add => exact (.cons ⟨_, rfl⟩ (.cons ⟨_, rfl⟩ .nil)))
    (case te0_sub => k_is)
    (case tl0_sub => k_is)
    (case tz0_sub => exact Nat.le_of_ble_eq_true rfl)
    (case tv0_sub => exact (.cons ⟨_, rfl⟩ (.cons ⟨_, rfl⟩ .nil)))
    (case te0_mul => k_is)
    (case tl0_mul => k_is)
    (case tz0_mul => exact Nat.le_of_ble_eq_true rfl)
    (case tv0_mul => exact (.cons ⟨_, rfl⟩ (.cons ⟨_, rfl⟩ .nil)))
    (case te0_pick => k_is)
    (case tl0_pick => k_is)
    (case tz0_pick => exact Nat.le_of_ble_eq_true rfl)
    (case tv0_pick => exact (.cons ⟨_, rfl⟩ (.cons ⟨_, rfl⟩ (.cons ⟨_, rfl⟩ .nil))))
    (case te0_sum => k_is)
    (case tl0_sum => k_is)
    (case tz0_sum => exact Nat.le_of_ble_eq_true rfl)
    (case tv0_sum => exact .nil)
    (case te0_most => k_is)
    (case tl0_most => k_is)
    (case tz0_most => exact Nat.le_of_ble_eq_true rfl)
    (case tv0_most => exact .nil)
    (case te0_look => k_is)
    (case tl0_look => k_is)
    (case tz0_look => exact Nat.le_of_ble_eq_true rfl)
    (case tv0_look => exact (.cons ⟨_, rfl⟩ (.cons ⟨_, rfl⟩ .nil)))
    (case ra1 => k_is)
    (case rl1 => k_is)
    (case rk1 => k_keys)
    (case te1_num => k_is)
    (case tl1_num => k_is)
    (case tz1_num => exact Nat.le_of_ble_eq_true rfl)
    (case tv1_num => exact .nil)
    (case te1_cell => k_is)
    (case tl1_cell => k_is)
    (case tz1_cell => exact Nat.le_of_ble_eq_true rfl)
    (case tv1_cell => exact (.cons ⟨_, rfl⟩ .nil))
    (case te1_add => k_is)
    (case tl1_add => k_is)
    (case tz1_add => exact Nat.le_of_ble_eq_true rfl)
    (case tv1_add => exact .nil)
    (case te1_sub => k_is)
    (case tl1_sub => k_is)
    (case tz1_sub => exact Nat.le_of_ble_eq_true rfl)
    (case tv1_sub => exact .nil)
    (case te1_mul => k_is)
    (case tl1_mul => k_is)
    (case tz1_mul => exact Nat.le_of_ble_eq_true rfl)
    (case tv1_mul => exact .nil)
    (case te1_pick => k_is)
    (case tl1_pick => k_is)
    (case tz1_pick => exact Nat.le_of_ble_eq_true rfl)
    (case tv1_pick => exact .nil)
    (case te1_sum => k_is)
    (case tl1_sum => k_is)
    (case tz1_sum => exact Nat.le_of_ble_eq_true rfl)
    (case tv1_sum => exact (.cons ⟨_, rfl⟩ (.cons ⟨_, rfl⟩ .nil)))
    (case te1_most => k_is)
    (case tl1_most => k_is)
    (case tz1_most => exact Nat.le_of_ble_eq_true rfl)
    (case tv1_most => exact (.cons ⟨_, rfl⟩ (.cons ⟨_, rfl⟩ .nil)))
    (case te1_look => k_is)
    (case tl1_look => k_is)
    (case tz1_look => exact Nat.le_of_ble_eq_true rfl)
    (case tv1_look => exact (.cons ⟨_, rfl⟩ (.cons ⟨_, rfl⟩ .nil)))
