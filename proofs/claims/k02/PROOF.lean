import PyProof.Rows.All
import Wide.All
import OpenK.AllK
import Wide.FinOn
import Lean
import PyProof.EqAt
import PyProof.EqKinds
import PyProof.TupleCall
import KE.KRevIter
import KE.RegKIsAll
import PyProof.NeKinds
import PyProof.EnumFor
import PyProof.EnumMake
import PyProof.EnumStmt
import PyProof.Rows.EnumRows
import PyProof.Rows.SetFrom
import PyProof.Rows.SumAny
import PyProof.Rows.FoldScan
import PyProof.SumAny
import PyProof.SetRoads
import KE.KSortTup
import KE.KDictOf
import PyProof.MeetsDict
import PyProof.AttrMissHeap
import PyProof.FactsAll.dict_3
import PySem.Challenge.RW_pilotpair_k02_refused
set_option linter.all false
namespace GS
variable {α β : Type} [DecidableEq α] [DecidableEq β]

/-- x stands in l, and ahead of o where there is one -/
def wants (l : List α) (x : α) (o : Option α) : Prop := x ∈ l ∧ ∀ y, o = some y → l.idxOf x < l.idxOf y

theorem idx_at {l : List α} (h : l.Nodup) {j : Nat} {x : α} (e : l[j]? = some x) : l.idxOf x = j := by
  obtain ⟨hj, e⟩ := List.getElem?_eq_some_iff.mp e
  subst e
  exact h.idxOf_getElem j hj
theorem at_idx {l : List α} {x : α} (h : x ∈ l) : l[l.idxOf x]? = some x := by
  have hl : l.idxOf x < l.length := List.idxOf_lt_length_iff.mpr h
  rw [List.getElem?_eq_getElem hl, List.getElem_idxOf hl]
theorem idx_inj {l : List α} {x y : α} (hx : x ∈ l) (hy : y ∈ l) (e : l.idxOf x = l.idxOf y) : x = y := by
  have a := at_idx hx
  rw [e, at_idx hy] at a
  exact (Option.some.inj a).symm

/-- a pairing that stays -/
structure Stable (P : α → List β) (B : β → List α) (R : α → β → Prop) : Prop where
  suit : ∀ {p b}, R p b → b ∈ P p ∧ p ∈ B b
  one : ∀ {p b b'}, R p b → R p b' → b = b'
  eno : ∀ {p p' b}, R p b → R p' b → p = p'
  stay : ∀ {p b}, b ∈ P p → p ∈ B b → (∀ b', R p b' → (P p).idxOf b < (P p).idxOf b') → (∀ p', R p' b → (B b).idxOf p < (B b).idxOf p') → False
theorem Stable.swap {P : α → List β} {B : β → List α} {R : α → β → Prop} (S : Stable P B R) : Stable B P fun b p => R p b :=
  ⟨fun h => ⟨(S.suit h).2, (S.suit h).1⟩, fun h h' => S.eno h h', fun h h' => S.one h h', fun h1 h2 h3 h4 => S.stay h2 h1 h4 h3⟩

/-- a state of the asking: how many boats each has asked, whom each boat has -/
structure Good (P : α → List β) (B : β → List α) (nx : α → Nat) (hd : β → Option α) : Prop where
  le : ∀ p, nx p ≤ (P p).length
  last : ∀ {b p}, hd b = some p → 0 < nx p ∧ (P p)[nx p - 1]? = some b
  suitB : ∀ {b p}, hd b = some p → p ∈ B b
  asked : ∀ {p j b}, j < nx p → (P p)[j]? = some b → p ∈ B b → ∃ q, hd b = some q ∧ (B b).idxOf q ≤ (B b).idxOf p
  best : ∀ {R : α → β → Prop}, Stable P B R → ∀ {p b}, R p b → ∀ {j}, j < nx p → (P p)[j]? = some b → hd b = some p

def up (nx : α → Nat) (p : α) : α → Nat := fun q => if q = p then nx q + 1 else nx q
def put (hd : β → Option α) (b : β) (p : α) : β → Option α := fun c => if c = b then some p else hd c
theorem up_self (nx : α → Nat) (p : α) : up nx p p = nx p + 1 := if_pos rfl
theorem up_ne {nx : α → Nat} {p q : α} (h : q ≠ p) : up nx p q = nx q := if_neg h
theorem up_ge (nx : α → Nat) (p q : α) : nx q ≤ up nx p q := by unfold up; split <;> omega
theorem put_self (hd : β → Option α) (b : β) (p : α) : put hd b p b = some p := if_pos rfl
theorem put_ne {hd : β → Option α} {b c : β} {p : α} (h : c ≠ b) : put hd b p c = hd c := if_neg h

theorem Good.start (P : α → List β) (B : β → List α) : Good P B (fun _ => 0) (fun _ => none) :=
  ⟨fun _ => Nat.zero_le _, fun h => (by cases h), fun h => (by cases h), fun h => absurd h (Nat.not_lt_zero _), fun _ _ _ _ _ h => absurd h (Nat.not_lt_zero _)⟩

section
variable {P : α → List β} {B : β → List α} {nx : α → Nat} {hd : β → Option α}
theorem Good.inj (G : Good P B nx hd) {b b' : β} {p : α} (h : hd b = some p) (h' : hd b' = some p) : b = b' := by
  have a := (G.last h).2
  rw [(G.last h').2] at a
  exact (Option.some.inj a).symm
theorem Good.has (G : Good P B nx hd) (nP : ∀ p, (P p).Nodup) {b : β} {p : α} (h : hd b = some p) : b ∈ P p ∧ nx p = (P p).idxOf b + 1 := by
  obtain ⟨h0, e⟩ := G.last h
  refine ⟨List.mem_of_getElem? e, ?_⟩
  have := idx_at (nP p) e
  omega
/-- one asking -/
theorem Good.step (G : Good P B nx hd) (nP : ∀ p, (P p).Nodup) {p : α} {b : β} (alone : ∀ c, hd c ≠ some p) (e : (P p)[nx p]? = some b) :
    (wants (B b) p (hd b) → Good P B (up nx p) (put hd b p)) ∧ (¬ wants (B b) p (hd b) → Good P B (up nx p) hd) := by
  have hlt : nx p < (P p).length := (List.getElem?_eq_some_iff.mp e).1
  have hle : ∀ q, up nx p q ≤ (P q).length := fun q => by
    by_cases h : q = p
    · subst h; rw [up_self]; exact hlt
    · rw [up_ne h]; exact G.le q
  -- who is asked at j by the new count
  have split : ∀ {q j c}, j < up nx p q → (P q)[j]? = some c → j < nx q ∨ (q = p ∧ c = b) := fun {q j c} hj ec => by
    by_cases h : q = p
    · subst h
      rw [up_self] at hj
      by_cases h2 : j < nx q
      · exact .inl h2
      · have : j = nx q := by omega
        subst this
        rw [e] at ec
        exact .inr ⟨rfl, (Option.some.inj ec).symm⟩
    · rw [up_ne h] at hj; exact .inl hj
  have keep : ∀ {c q}, hd c = some q → q ≠ p := fun {c q} h z => alone c (z ▸ h)
  constructor
  · intro w
    refine ⟨hle, fun {c q} h => ?_, fun {c q} h => ?_, fun {q j c} hj ec hq => ?_, fun {R} S {q c} r {j} hj ec => ?_⟩
    · by_cases hc : c = b
      · subst hc
        rw [put_self] at h
        cases h
        rw [up_self]
        exact ⟨Nat.succ_pos _, e⟩
      · rw [put_ne hc] at h
        rw [up_ne (keep h)]
        exact G.last h
    · by_cases hc : c = b
      · subst hc
        rw [put_self] at h
        cases h
        exact w.1
      · rw [put_ne hc] at h
        exact G.suitB h
    · by_cases hc : c = b
      · subst hc
        refine ⟨p, put_self .., ?_⟩
        rcases split hj ec with h | ⟨rfl, _⟩
        · obtain ⟨z, hz, le⟩ := G.asked h ec hq
          have := w.2 z hz
          omega
        · exact Nat.le_refl _
      · rw [put_ne hc]
        rcases split hj ec with h | ⟨_, h⟩
        · exact G.asked h ec hq
        · exact absurd h hc
    · by_cases hc : c = b
      · subst hc
        rw [put_self]
        rcases split hj ec with h | ⟨rfl, _⟩
        · -- q had c until then, and p is taken in q's place
          have hq := G.best S r h ec
          by_cases hqp : q = p
          · rw [hqp]
          · exfalso
            have lt := w.2 q hq
            refine S.stay (p := p) (b := c) (List.mem_of_getElem? e) w.1 (fun b' r' => ?_) (fun p' r' => ?_)
            · have m' := (S.suit r').1
              have ej := at_idx m'
              rw [idx_at (nP p) e]
              by_cases g : (P p).idxOf b' < nx p
              · exact absurd (G.best S r' g ej) (alone _)
              · have : (P p).idxOf b' ≠ nx p := fun z => by
                  rw [z, e] at ej
                  have z2 := Option.some.inj ej
                  subst z2
                  exact hqp (S.eno r r')
                omega
            · rw [S.eno r' r]; exact lt
        · rfl
      · rw [put_ne hc]
        rcases split hj ec with h | ⟨_, h⟩
        · exact G.best S r h ec
        · exact absurd h hc
  · intro w
    have rej : p ∈ B b → ∃ q, hd b = some q ∧ (B b).idxOf q ≤ (B b).idxOf p := fun hp => by
      cases hq : hd b with
      | none => exact absurd ⟨hp, fun y h => by rw [hq] at h; cases h⟩ w
      | some q =>
        refine ⟨q, rfl, ?_⟩
        by_cases g : (B b).idxOf q ≤ (B b).idxOf p
        · exact g
        · exact absurd ⟨hp, fun y h => by rw [hq] at h; cases h; omega⟩ w
    refine ⟨hle, fun {c q} h => ?_, G.suitB, fun {q j c} hj ec hq => ?_, fun {R} S {q c} r {j} hj ec => ?_⟩
    · rw [up_ne (keep h)]; exact G.last h
    · rcases split hj ec with h | ⟨rfl, rfl⟩
      · exact G.asked h ec hq
      · exact rej hq
    · rcases split hj ec with h | ⟨rfl, rfl⟩
      · exact G.best S r h ec
      · exfalso
        obtain ⟨z, hz, le⟩ := rej (S.suit r).2
        have zq : z ≠ q := keep hz
        have zB := G.suitB hz
        have lt : (B c).idxOf z < (B c).idxOf q := by
          have : (B c).idxOf z ≠ (B c).idxOf q := fun y => zq (idx_inj zB (S.suit r).2 y)
          omega
        obtain ⟨zc, zn⟩ := G.has nP hz
        refine S.stay (p := z) (b := c) zc zB (fun b' r' => ?_) (fun p' r' => ?_)
        · have m' := (S.suit r').1
          have ej := at_idx m'
          by_cases g : (P z).idxOf b' < nx z
          · have := G.best S r' g ej
            have cb := G.inj hz this
            subst cb
            exact absurd (S.eno r' r) zq
          · omega
        · rw [S.eno r' r]; exact lt

def Done (P : α → List β) (nx : α → Nat) (hd : β → Option α) : Prop := ∀ p, (∀ b, hd b ≠ some p) → nx p = (P p).length
theorem Good.stable (G : Good P B nx hd) (nP : ∀ p, (P p).Nodup) (D : Done P nx hd) : Stable P B fun p b => hd b = some p where
  suit h := ⟨(G.has nP h).1, G.suitB h⟩
  one h h' := G.inj h h'
  eno h h' := by rw [h] at h'; exact Option.some.inj h'
  stay {p b} hb hp h1 h2 := by
    have ask : (P p).idxOf b < nx p := by
      by_cases al : ∀ c, hd c ≠ some p
      · rw [D p al]; exact List.idxOf_lt_length_iff.mpr hb
      · obtain ⟨c, hc⟩ := Classical.not_forall.mp al
        have hc := Classical.not_not.mp hc
        have := h1 c hc
        have := (G.has nP hc).2
        omega
    obtain ⟨q, hq, le⟩ := G.asked ask (at_idx hb) hp
    have := h2 q hq
    omega
/-- who is paired in some pairing that stays has a boat here, no further behind -/
theorem Good.glad (G : Good P B nx hd) (nP : ∀ p, (P p).Nodup) (D : Done P nx hd) {R : α → β → Prop} (S : Stable P B R) {p : α} {b : β} (r : R p b) : ∃ c, hd c = some p ∧ (P p).idxOf c ≤ (P p).idxOf b := by
  have hb := (S.suit r).1
  have hlt : (P p).idxOf b < (P p).length := List.idxOf_lt_length_iff.mpr hb
  by_cases al : ∀ c, hd c ≠ some p
  · have := D p al
    exact absurd (G.best S r (by omega) (at_idx hb)) (al b)
  · obtain ⟨c, hc⟩ := Classical.not_forall.mp al
    have hc := Classical.not_not.mp hc
    refine ⟨c, hc, ?_⟩
    obtain ⟨_, hn⟩ := G.has nP hc
    by_cases g : (P p).idxOf b < nx p
    · have := G.best S r g (at_idx hb)
      rw [G.inj hc this]; exact Nat.le_refl _
    · omega
end
/-- all ways of asking end alike -/
theorem same {P : α → List β} {B : β → List α} {nx nx' : α → Nat} {hd hd' : β → Option α} (nP : ∀ p, (P p).Nodup) (G : Good P B nx hd) (D : Done P nx hd) (G' : Good P B nx' hd') (D' : Done P nx' hd') : hd = hd' ∧ nx = nx' := by
  have half : ∀ {nx nx' : α → Nat} {hd hd' : β → Option α}, Good P B nx hd → Done P nx hd → Good P B nx' hd' → Done P nx' hd' → ∀ b p, hd b = some p → hd' b = some p := by
    intro nx nx' hd hd' G D G' D' b p h
    obtain ⟨c, hc, le⟩ := G'.glad nP D' (G.stable nP D) h
    obtain ⟨d, hd2, le2⟩ := G.glad nP D (G'.stable nP D') hc
    have e := G.inj h hd2
    subst e
    have := idx_inj (G'.has nP hc).1 (G.has nP h).1 (by omega)
    rw [← this]; exact hc
  have e : hd = hd' := by
    funext b
    cases h : hd b with
    | some p => exact (half G D G' D' b p h).symm
    | none =>
      cases h' : hd' b with
      | none => rfl
      | some p => rw [half G' D' G D b p h'] at h; cases h
  refine ⟨e, funext fun p => ?_⟩
  subst e
  by_cases al : ∀ c, hd c ≠ some p
  · rw [D p al, D' p al]
  · obtain ⟨c, hc⟩ := Classical.not_forall.mp al
    have hc := Classical.not_not.mp hc
    rw [(G.has nP hc).2, (G'.has nP hc).2]

/-! ### the same are alone -/
theorem le_of_subset : ∀ {l m : List α}, l.Nodup → (∀ x ∈ l, x ∈ m) → l.length ≤ m.length
  | [], _, _, _ => Nat.zero_le _
  | x :: l, m, nd, h => by
    rw [List.nodup_cons] at nd
    have hx := h x (List.mem_cons_self ..)
    have sub : ∀ y ∈ l, y ∈ m.erase x := fun y hy => (List.mem_erase_of_ne (fun (z : y = x) => nd.1 (z ▸ hy))).mpr (h y (List.mem_cons_of_mem _ hy))
    have q := le_of_subset nd.2 sub
    rw [List.length_erase_of_mem hx] at q
    have : 0 < m.length := List.length_pos_of_mem hx
    rw [List.length_cons]
    omega
theorem nodup_map_on {γ : Type} {f : α → γ} : ∀ {l : List α}, l.Nodup → (∀ x ∈ l, ∀ y ∈ l, f x = f y → x = y) → (l.map f).Nodup
  | [], _, _ => List.nodup_nil
  | x :: l, nd, h => by
    rw [List.nodup_cons] at nd
    rw [List.map_cons, List.nodup_cons]
    refine ⟨fun hm => ?_, nodup_map_on nd.2 fun a ha b hb => h a (List.mem_cons_of_mem _ ha) b (List.mem_cons_of_mem _ hb)⟩
    obtain ⟨y, hy, e⟩ := List.mem_map.mp hm
    have := h y (List.mem_cons_of_mem _ hy) x (List.mem_cons_self ..) e
    exact nd.1 (this ▸ hy)
/-- R gives a boat to all to whom R' does, R' gives a pilot to all boats to which R does: R' gives a boat to all to whom R does -/
theorem alone {R R' : α → β → Prop} {A : List α} (nA : A.Nodup) (all : ∀ p b, R p b → p ∈ A) (all' : ∀ p b, R' p b → p ∈ A) (inj : ∀ p p' b, R p b → R p' b → p = p') (one' : ∀ p b b', R' p b → R' p b' → b = b')
    (h1 : ∀ p b, R' p b → ∃ c, R p c) (h2 : ∀ p b, R p b → ∃ q, R' q b) {p : α} {b : β} (r : R p b) : ∃ c, R' p c := by
  apply Classical.byContradiction
  intro no
  let f : α → α := fun q => @dite α (∃ z, ∃ c, R q c ∧ R' z c) (Classical.propDecidable _) (fun h => Classical.choose h) (fun _ => q)
  have hf : ∀ q, (∃ c, R q c) → ∃ c, R q c ∧ R' (f q) c := fun q hq => by
    have ex : ∃ z, ∃ c, R q c ∧ R' z c := by
      obtain ⟨c, hc⟩ := hq
      obtain ⟨z, hz⟩ := h2 q c hc
      exact ⟨z, c, hc, hz⟩
    have e : f q = Classical.choose ex := dif_pos ex
    rw [e]
    exact Classical.choose_spec ex
  let S := A.filter fun q => @decide (∃ c, R q c) (Classical.propDecidable _)
  let S' := A.filter fun q => @decide (∃ c, R' q c) (Classical.propDecidable _)
  have memS : ∀ q, q ∈ S ↔ ∃ c, R q c := fun q => by
    constructor
    · intro h; exact @of_decide_eq_true _ (Classical.propDecidable _) (List.mem_filter.mp h).2
    · intro ⟨c, h⟩; exact List.mem_filter.mpr ⟨all q c h, @decide_eq_true _ (Classical.propDecidable _) ⟨c, h⟩⟩
  have memS' : ∀ q, q ∈ S' ↔ ∃ c, R' q c := fun q => by
    constructor
    · intro h; exact @of_decide_eq_true _ (Classical.propDecidable _) (List.mem_filter.mp h).2
    · intro ⟨c, h⟩; exact List.mem_filter.mpr ⟨all' q c h, @decide_eq_true _ (Classical.propDecidable _) ⟨c, h⟩⟩
  have nS : S.Nodup := nA.filter _
  have nS' : S'.Nodup := nA.filter _
  have a1 : (S.map f).length ≤ S'.length := by
    refine le_of_subset (nodup_map_on nS fun x hx y hy e => ?_) fun z hz => ?_
    · obtain ⟨c, h, h'⟩ := hf x ((memS x).mp hx)
      obtain ⟨d, g, g'⟩ := hf y ((memS y).mp hy)
      rw [e] at h'
      have := one' _ _ _ h' g'
      subst this
      exact inj _ _ _ h g
    · obtain ⟨x, hx, rfl⟩ := List.mem_map.mp hz
      obtain ⟨c, h, h'⟩ := hf x ((memS x).mp hx)
      exact (memS' _).mpr ⟨c, h'⟩
  have a2 : (p :: S').length ≤ S.length := by
    refine le_of_subset (List.nodup_cons.mpr ⟨fun h => no ((memS' p).mp h), nS'⟩) fun z hz => ?_
    rcases List.mem_cons.mp hz with rfl | hz
    · exact (memS _).mpr ⟨b, r⟩
    · obtain ⟨c, hc⟩ := (memS' z).mp hz
      exact (memS z).mpr (h1 z c hc)
  rw [List.length_map] at a1
  rw [List.length_cons] at a2
  omega
end GS

set_option Elab.async false
set_option linter.all false
set_option maxRecDepth 100000
namespace L2
open PySem PySem.Spec PyProof.Rows

/-- a key: an int or a str -/
abbrev Key := Sum Int Str
def keyIs : Key → Value → Bool
  | .inl k, v => Value.isInt k v
  | .inr x, v => Value.isStrOf x v
def keyH (w : World) : Key → Int
  | .inl k => hashInt k
  | .inr x => hashStr w x
theorem keyIs_shape : ∀ {k : Key} {v : Value}, keyIs k v = true → (∃ i t, k = Sum.inl i ∧ v = Value.int i t) ∨ (∃ x t, k = Sum.inr x ∧ v = Value.str x t)
  | .inl i, v, h => by
    obtain ⟨t, e⟩ := Value.isInt_shape (k := i) (v := v) h
    exact .inl ⟨i, t, rfl, e⟩
  | .inr x, v, h => by
    obtain ⟨t, e⟩ := Value.isStrOf_shape (x := x) (v := v) h
    exact .inr ⟨x, t, rfl, e⟩
theorem keyIs_int (i : Int) (t : Tok) : keyIs (.inl i) (.int i t) = true := by simp [keyIs, Value.isInt]
theorem keyIs_str (x : Str) (t : Tok) : keyIs (.inr x) (.str x t) = true := by simp [keyIs, Value.isStrOf]
theorem key_ll (a b : Int) : decide ((Sum.inl a : Key) = Sum.inl b) = (a == b) := by
  by_cases e : a = b
  · subst e; simp
  · have h : ¬ (Sum.inl a : Key) = Sum.inl b := fun q => e (Sum.inl.inj q)
    rw [decide_eq_false h]
    exact (beq_eq_false_iff_ne.mpr e).symm
theorem key_rr (a b : Str) : decide ((Sum.inr a : Key) = Sum.inr b) = decide (a = b) := by
  by_cases e : a = b
  · subst e; simp
  · have h : ¬ (Sum.inr a : Key) = Sum.inr b := fun q => e (Sum.inr.inj q)
    rw [decide_eq_false h, decide_eq_false e]
theorem key_lr (a : Int) (b : Str) : decide ((Sum.inl a : Key) = Sum.inr b) = false := decide_eq_false (fun q => nomatch q)
theorem key_rl (a : Str) (b : Int) : decide ((Sum.inr a : Key) = Sum.inl b) = false := decide_eq_false (fun q => nomatch q)

def mixKind (prog : Program) (w : World) : PySem.KeyKind prog w Key where
  is := keyIs
  hash := keyH w
  inj := fun v a b ha hb => by
    rcases keyIs_shape ha with ⟨i, t, rfl, rfl⟩ | ⟨x, t, rfl, rfl⟩
    · rcases keyIs_shape hb with ⟨j, u, rfl, e⟩ | ⟨y, u, rfl, e⟩
      · injection e with e1 _; rw [e1]
      · exact nomatch e
    · rcases keyIs_shape hb with ⟨j, u, rfl, e⟩ | ⟨y, u, rfl, e⟩
      · exact nomatch e
      · injection e with e1 _; rw [e1]
  byValue := fun k v h => by
    rcases keyIs_shape h with ⟨i, t, rfl, rfl⟩ | ⟨x, t, rfl, rfl⟩ <;> rfl
  pyHash := fun hv h => by
    rcases keyIs_shape hv with ⟨i, t, rfl, rfl⟩ | ⟨x, t, rfl, rfl⟩
    · exact wpAny_pyHash_int h
    · exact wpAny_pyHash_str h
  eqBool := fun hu hv h => by
    rcases keyIs_shape hu with ⟨i, t, rfl, rfl⟩ | ⟨x, t, rfl, rfl⟩
    · rcases keyIs_shape hv with ⟨j, u, rfl, rfl⟩ | ⟨y, u, rfl, rfl⟩
      · rw [key_ll] at h; exact wpAny_eqBool_int h
      · rw [key_lr] at h; exact SeqAt.EqAt.int_str i t y u _ _ _ _ h
    · rcases keyIs_shape hv with ⟨j, u, rfl, rfl⟩ | ⟨y, u, rfl, rfl⟩
      · rw [key_rl] at h; exact SeqAt.EqAt.str_int x t j u _ _ _ _ h
      · rw [key_rr] at h; exact wpAny_eqBool_str h
  «strs» := fun k x t v h => by
    rcases keyIs_shape h with ⟨i, u, rfl, e⟩ | ⟨y, u, rfl, e⟩
    · exact nomatch e
    · injection e with e1 _
      subst e1
      cases v <;> rfl

theorem mixKind_is (prog : Program) (w : World) (k : Key) (v : Value) : (mixKind prog w).is k v = keyIs k v := rfl
theorem mixKind_int (prog : Program) (w : World) (i : Int) (t : Tok) : (mixKind prog w).is (.inl i) (.int i t) = true := keyIs_int i t
theorem mixKind_str (prog : Program) (w : World) (x : Str) (t : Tok) : (mixKind prog w).is (.inr x) (.str x t) = true := keyIs_str x t
end L2

namespace L2
open PySem PySem.Spec PyProof.Rows

/-- a value, without the heap -/
inductive V where
  | non | bl (b : Bool) | int (i : Int) | str (x : Str) | byt (b : Array UInt8) | flt (b : UInt64) | ref (a : Addr) | ty (n : String)
  deriving DecidableEq

def RelV : V → Value → Prop
  | .non, u => u = Value.none
  | .bl b, u => u = Value.bool b
  | .int i, u => ∃ t, u = Value.int i t
  | .str x, u => ∃ t, u = Value.str x t
  | .byt b, u => ∃ t, u = Value.bytes b t
  | .flt b, u => ∃ t, u = Value.float b t
  | .ref a, u => u = Value.ref a
  | .ty n, u => u = Value.type n

abbrev Vals : List V → List Value → Prop := Paired RelV
theorem Vals.length {xs : List V} {us : List Value} (r : Vals xs us) : xs.length = us.length := Paired.length r
theorem Vals.get : ∀ {xs : List V} {us : List Value} {i : Nat} {x : V}, Vals xs us → xs[i]? = some x → ∃ u, us[i]? = some u ∧ RelV x u
  | _, _, _, _, .nil, e => by simp at e
  | _, _, 0, _, .cons r _, e => by simp at e; subst e; exact ⟨_, rfl, r⟩
  | _, _, i + 1, x, .cons _ t, e => by
    obtain ⟨u, h1, h2⟩ := Vals.get (i := i) (x := x) t (by simpa using e)
    exact ⟨u, by simpa using h1, h2⟩
theorem Vals.set {x : V} {u : Value} (r : RelV x u) : ∀ {xs : List V} {us : List Value} (i : Nat), Vals xs us → Vals (xs.set i x) (us.set i u)
  | _, _, _, .nil => .nil
  | _, _, 0, .cons _ t => .cons r t
  | _, _, i + 1, .cons q t => .cons q (Vals.set r i t)
theorem Vals.append : ∀ {xs ys : List V} {us ws : List Value}, Vals xs us → Vals ys ws → Vals (xs ++ ys) (us ++ ws)
  | _, _, _, _, .nil, s => s
  | _, _, _, _, .cons r t, s => .cons r (Vals.append t s)
theorem Vals.take : ∀ {xs : List V} {us : List Value} (n : Nat), Vals xs us → Vals (xs.take n) (us.take n)
  | _, _, 0, _ => .nil
  | _, _, _ + 1, .nil => .nil
  | _, _, n + 1, .cons r t => .cons r (Vals.take n t)
theorem Vals.drop : ∀ {xs : List V} {us : List Value} (n : Nat), Vals xs us → Vals (xs.drop n) (us.drop n)
  | _, _, 0, r => r
  | _, _, _ + 1, .nil => .nil
  | _, _, n + 1, .cons _ t => Vals.drop n t
theorem Vals.none_of : ∀ {xs : List V} {us : List Value} {i : Nat}, Vals xs us → xs[i]? = none → us[i]? = none := fun {xs us i} r e => by
  have h1 := r.length
  have h2 : xs.length ≤ i := List.getElem?_eq_none_iff.mp e
  exact List.getElem?_eq_none_iff.mpr (by omega)

def RelO : Option V → Option Value → Prop
  | some v, some u => RelV v u
  | none, none => True
  | _, _ => False
def KV {κ : Type} : List (κ × V) → List (κ × Value) → Prop := Paired fun (p : κ × V) (q : κ × Value) => p.1 = q.1 ∧ RelV p.2 q.2

/-- a key of a dict (00_mix): an int or a text -/
def kV : Key → V
  | .inl i => .int i
  | .inr x => .str x

/-- what stands at a tracked address -/
inductive HO where
  /-- a list -/
  | lst (xs : List V)
  /-- a tuple (never changes) -/
  | tup (xs : List V)
  /-- a dict whose keys are ints and texts; one whose keys are tuples of ints and texts (the empty one is both) -/
  | dK (kvs : List (Key × V)) | dT (kvs : List (List Key × V))
  /-- a set of ints: its members, its size -/
  | set (S : Int → Bool) (n : Nat)
  /-- an instance of the class at C, its dict at dx, its attributes -/
  | ins (C dx : Addr) (fs : List (Str × V))
  /-- the dict of the instance at x -/
  | own (x : Addr)
  /-- the dict of an exception -/
  | xd (fs : List (Str × V))
  /-- a bound method, f of x -/
  | met (f x : Addr)
  /-- a range object lo, lo + 1, .. below hi -/
  | rng (lo hi : Int)
  /-- a thing that is known to the object (the script; a dict while a loop walks it): read, never written while it is so -/
  | frz (o : Obj) (u : HO)
  /-- a code object's table -/
  | tbl (ps : Array Value)
  /-- any other thing, by what is true of its one object (a def of one's own: SetO a S n := HO.ext fun h => ..) -/
  | ext (φ : Heap → Prop)

abbrev Hp := Addr → Option HO
def upd (H : Hp) (a : Addr) (o : HO) : Hp := fun b => if b = a then some o else H b
theorem upd_same {H : Hp} {a : Addr} {o : HO} : upd H a o a = some o := by unfold upd; rw [if_pos rfl]
theorem upd_ne {H : Hp} {a b : Addr} {o : HO} (h : b ≠ a) : upd H a o b = H b := by unfold upd; rw [if_neg h]
theorem upd_upd {H : Hp} {a : Addr} {o u : HO} : upd (upd H a o) a u = upd H a u := by
  funext b; unfold upd; split <;> rfl
/-- two objects of different content stand apart -/
theorem ne_of {H : Hp} {a b : Addr} {o u : HO} (h : H a = some o) (h' : H b = some u) (d : o ≠ u) : a ≠ b := by
  intro e; subst e; rw [h] at h'; exact d (Option.some.inj h')
theorem ne_of_none {H : Hp} {a b : Addr} {o : HO} (h : H a = some o) (h' : H b = none) : a ≠ b := by
  intro e; subst e; rw [h] at h'; cases h'

section
variable (P : Program) (w : World)
def ObjOk (H : Hp) (h : Heap) (a : Addr) : HO → Prop
  | .lst xs => xs.length ≤ sizeLine ∧ ∃ (its : List Value) (n : Nat), Vals xs its ∧ h.get? a = some { cls := .type "list", data := .seq its.toArray n }
  | .tup xs => xs.length ≤ sizeLine ∧ ∃ its : List Value, Vals xs its ∧ IsTup h a its.toArray
  | .dK kvs => kvs.length ≤ sizeLine ∧ (a == sysModules) = false ∧ ∃ vs, KV kvs vs ∧ h.DictOf (mixKind P w) a vs
  | .dT kvs => kvs.length ≤ sizeLine ∧ (a == sysModules) = false ∧ ∃ xs : List (List Key × Addr × Value),
      Paired (fun (p : List Key × V) (q : List Key × Addr × Value) => p.1 = q.1 ∧ H q.2.1 = some (.tup (p.1.map kV)) ∧ RelV p.2 q.2.2) kvs xs ∧
      ∃ o es ep, h.get? a = some o ∧ o.ExactDict ∧ o.data = .dict es ep ∧ es.toList = xs.map (entryOfKey (tupleKind (mixKind P w))) ∧ (xs.map (·.1)).Nodup
  | .set S n => h.SetOf (intKind P w) a S n
  | .ins C dx fs => H dx = some (.own a) ∧ fs.length ≤ 1000 ∧ dx ≠ a ∧ h.get? a = some (PySem.W.instObj C dx) ∧
      ∃ mA, h.Ns1 dx mA ∧ (∀ f, RelO (fs.lookup f) (mA f)) ∧ PySem.Within mA (fs.map (·.1))
  | .own _ => ∃ o, h.get? a = some o
  | .xd fs => ∃ mA, h.Ns1 a mA ∧ ∀ f, RelO (fs.lookup f) (mA f)
  | .rng lo hi => ∃ t u v, h.get? a = some { cls := .type "range", data := .fields #[.int lo t, .int hi u, .int 1 v] }
  | .frz o u => h.get? a = some o ∧ ObjOk H h a u
  | .tbl ps => h.get? a = some { cls := .none, data := .fields ps }
  | .met f x => h.get? a = some (PySem.W.methodObj (.ref f) (.ref x))
  | .ext φ => φ h ∧ (∃ o, h.get? a = some o) ∧ ∀ h1 h2 : Heap, φ h1 → (∀ o, h1.get? a = some o → h2.get? a = some o) → φ h2
/-- the abstract heap is held -/
def HOk (H : Hp) (h : Heap) : Prop := ∀ a o, H a = some o → ObjOk P w H h a o
end

section
variable {P : Program} {w : World} {H H' : Hp} {h h' : Heap} {a : Addr} {o : HO}
theorem ObjOk.lt (x : ObjOk P w H h a o) : a < h.objs.size := by
  cases o with
  | lst xs => obtain ⟨_, _, _, _, e⟩ := x; exact Heap.lt_size e
  | tup xs => obtain ⟨_, _, _, p⟩ := x; exact p.lt
  | dK kvs => obtain ⟨_, _, _, _, o, _, _, e, _⟩ := x; exact Heap.lt_size e
  | dT kvs => obtain ⟨_, _, _, _, o, _, _, e, _⟩ := x; exact Heap.lt_size e
  | set S n => obtain ⟨o, _, _, _, e, _⟩ := x; exact Heap.lt_size e
  | ins C dx fs => obtain ⟨_, _, _, e, _⟩ := x; exact Heap.lt_size e
  | own y => obtain ⟨_, e⟩ := x; exact Heap.lt_size e
  | xd fs => obtain ⟨_, ⟨_, _, _, e, _⟩, _⟩ := x; exact Heap.lt_size e
  | rng lo hi => obtain ⟨_, _, _, e⟩ := x; exact Heap.lt_size e
  | frz ob u => obtain ⟨e, _⟩ := x; exact Heap.lt_size e
  | tbl ps => exact Heap.lt_size (show h.get? a = some _ from x)
  | met f y => exact Heap.lt_size (show h.get? a = some _ from x)
  | ext φ => obtain ⟨_, ⟨_, e⟩, _⟩ := x; exact Heap.lt_size e
theorem Paired.mapP {α β : Type} {F G : α → β → Prop} : ∀ {l₁ : List α} {l₂ : List β}, Paired F l₁ l₂ → (∀ a b, F a b → G a b) → Paired G l₁ l₂
  | _, _, .nil, _ => .nil
  | _, _, .cons r t, f => .cons (f _ _ r) (Paired.mapP t f)
theorem Paired.imp' {α β : Type} {F G : α → β → Prop} (f : ∀ a b, F a b → G a b) {l₁ : List α} {l₂ : List β} (r : Paired F l₁ l₂) : Paired G l₁ l₂ := Paired.mapP r f
/-- what an object's description leans on: its own object, its own dict, the tuples -/
theorem ObjOk.stay (x : ObjOk P w H h a o) (k : ∀ b u, (b = a ∨ H b = some (.own a)) → h.get? b = some u → h'.get? b = some u)
    (ho : ∀ b, H b = some (.own a) → H' b = some (.own a)) (ht : ∀ b xs, H b = some (.tup xs) → H' b = some (.tup xs)) : ObjOk P w H' h' a o := by
  induction o with
  | lst xs => obtain ⟨z, its, n, r, e⟩ := x; exact ⟨z, its, n, r, k _ _ (.inl rfl) e⟩
  | tup xs => obtain ⟨z, its, r, ob, e, c⟩ := x; exact ⟨z, its, r, ob, k _ _ (.inl rfl) e, c⟩
  | dK kvs => obtain ⟨z, y, vs, r, ob, es, ep, e, c⟩ := x; exact ⟨z, y, vs, r, ob, es, ep, k _ _ (.inl rfl) e, c⟩
  | dT kvs =>
    obtain ⟨z, y, xs, r, ob, es, ep, e, c⟩ := x
    exact ⟨z, y, xs, Paired.mapP r fun p q z => ⟨z.1, ht _ _ z.2.1, z.2.2⟩, ob, es, ep, k _ _ (.inl rfl) e, c⟩
  | set S n => obtain ⟨ob, es, ep, t, e, c⟩ := x; exact ⟨ob, es, ep, t, k _ _ (.inl rfl) e, c⟩
  | ins C dx fs =>
    obtain ⟨d, z, ne, e, mA, ⟨od, es, ep, e2, c⟩, r⟩ := x
    exact ⟨ho _ d, z, ne, k _ _ (.inl rfl) e, mA, ⟨od, es, ep, k _ _ (.inr d) e2, c⟩, r⟩
  | own y => obtain ⟨ob, e⟩ := x; exact ⟨ob, k _ _ (.inl rfl) e⟩
  | xd fs => obtain ⟨mA, ⟨od, es, ep, e, c⟩, r⟩ := x; exact ⟨mA, ⟨od, es, ep, k _ _ (.inl rfl) e, c⟩, r⟩
  | rng lo hi => obtain ⟨t, u, v, e⟩ := x; exact ⟨t, u, v, k _ _ (.inl rfl) e⟩
  | frz ob u ih => obtain ⟨e, q⟩ := x; exact ⟨k _ _ (.inl rfl) e, ih q⟩
  | tbl ps =>
    have e : h.get? a = some { cls := .none, data := .fields ps } := x
    show h'.get? a = some { cls := .none, data := .fields ps }
    exact k a _ (.inl rfl) e
  | met f y =>
    have e : h.get? a = some (PySem.W.methodObj (.ref f) (.ref y)) := x
    show h'.get? a = some (PySem.W.methodObj (.ref f) (.ref y))
    exact k a _ (.inl rfl) e
  | ext φ => obtain ⟨p, ⟨o, e⟩, st⟩ := x; exact ⟨st _ _ p fun o q => k _ _ (.inl rfl) q, ⟨o, k _ _ (.inl rfl) e⟩, st⟩
theorem HOk.lt (x : HOk P w H h) (e : H a = some o) : a < h.objs.size := (x a o e).lt
theorem HOk.fresh (x : HOk P w H h) (e : h.objs.size ≤ a) : H a = none := by
  cases q : H a with
  | none => rfl
  | some u => exact absurd (Nat.lt_of_lt_of_le (x.lt q) e) (Nat.lt_irrefl _)
/-- every object of the heap is kept -/
theorem HOk.kept (x : HOk P w H h) (k : ∀ b u, h.get? b = some u → h'.get? b = some u) : HOk P w H h' := fun a o e =>
  (x a o e).stay (fun b u _ q => k b u q) (fun _ q => q) fun _ _ q => q
/-- a new object is laid and tracked -/
theorem HOk.laid (x : HOk P w H h) (k : ∀ b u, h.get? b = some u → h'.get? b = some u) (hp : h.objs.size ≤ a) (new : ObjOk P w (upd H a o) h' a o) : HOk P w (upd H a o) h' := fun b u e => by
  have hn := x.fresh hp
  by_cases hb : b = a
  · subst hb; rw [upd_same] at e; cases e; exact new
  · rw [upd_ne hb] at e
    exact (x b u e).stay (fun c v _ q => k c v q) (fun c q => by rw [upd_ne (ne_of_none q hn)]; exact q) fun c xs q => by rw [upd_ne (ne_of_none q hn)]; exact q
end

/-- what may be read as u: it is u, or a known u -/
def Rd (H : Hp) (a : Addr) (u : HO) : Prop := H a = some u ∨ ∃ o, H a = some (.frz o u)
theorem Rd.of {H : Hp} {a : Addr} {u : HO} (h : H a = some u) : Rd H a u := .inl h
theorem Rd.ok {P : Program} {w : World} {H : Hp} {h : Heap} {a : Addr} {u : HO} (r : Rd H a u) (x : HOk P w H h) : ObjOk P w H h a u := by
  rcases r with r | ⟨o, r⟩
  · exact x a u r
  · obtain ⟨_, q⟩ := x a _ r
    exact q
/-- what may be written -/
def Mut : Option HO → Prop
  | some (.lst _) => True
  | some (.dK _) => True
  | some (.dT _) => True
  | some (.set _ _) => True
  | some (.ins _ _ _) => True
  | some (.ext _) => True
  | _ => False
section
variable {P : Program} {w : World} {H : Hp} {h h' : Heap} {x e : Addr} {o' : HO}
/-- the object at e is changed: x itself, or the dict of the instance x -/
theorem HOk.write (ok : HOk P w H h) (mu : Mut (H x)) (he : e = x ∨ H e = some (.own x)) (k : ∀ b u, b ≠ e → h.get? b = some u → h'.get? b = some u) (heo : ∃ u, h'.get? e = some u)
    (new : ObjOk P w (upd H x o') h' x o') : HOk P w (upd H x o') h' := fun b u q => by
  have nown : ∀ c y, H c = some (.own y) → c ≠ x := fun c y r z => by subst z; rw [r] at mu; exact mu
  have ntup : ∀ c xs, H c = some (.tup xs) → c ≠ x := fun c xs r z => by subst z; rw [r] at mu; exact mu
  by_cases hb : b = x
  · subst hb; rw [upd_same] at q; cases q; exact new
  · rw [upd_ne hb] at q
    by_cases hbe : b = e
    · have q' : H b = some (.own x) := by
        rcases he with z | z
        · exact absurd (hbe.trans z) hb
        · rw [hbe]; exact z
      rw [q] at q'; cases q'
      obtain ⟨v, hv⟩ := heo
      exact ⟨v, by rw [hbe]; exact hv⟩
    · refine (ok b u q).stay (fun c v hc r => k c v ?_ r) (fun c r => by rw [upd_ne (nown c b r)]; exact r) fun c xs r => by rw [upd_ne (ntup c xs r)]; exact r
      rcases hc with rfl | hc
      · exact hbe
      · rintro rfl
        rcases he with z | z
        · exact nown c b hc z
        · rw [hc] at z; cases z; exact hb rfl
end

/-! ### kept unless tracked; of the frames at fs (the callers') the slots may change (an exception that passes writes there); of the records at ex (iterators) nothing is said -/
structure Un (fs ex : List Addr) (H H' : Hp) (h h' : Heap) : Prop where
  keep : ∀ b o, h.get? b = some o → H b = none → b ∉ fs → b ∉ ex → h'.get? b = some o
  slot : ∀ b o, h.get? b = some o → H b = none → b ∈ fs → b ∉ ex → ∃ sl, h'.get? b = some { o with slots := sl }
  free : ∀ b o, h.get? b = some o → H b = none → b ∉ ex → H' b = none
  there : ∀ b o, h.get? b = some o → b ∉ ex → ∃ o', h'.get? b = some o'
  tups : ∀ b xs, H b = some (.tup xs) → H' b = some (.tup xs)
  frzs : ∀ b o u, H b = some (.frz o u) → H' b = some (.frz o u)
  tbls : ∀ b ps, H b = some (.tbl ps) → ∃ more, H' b = some (.tbl (ps ++ more))
section
variable {fs fs' ex ex' : List Addr} {H H1 H2 : Hp} {h h1 h2 h' : Heap} {a x e : Addr} {o : HO}
theorem Un.any (u : Un fs ex H H1 h h1) {b : Addr} {ob : Obj} (q : h.get? b = some ob) (n : H b = none) (hx : b ∉ ex) : ∃ sl, h1.get? b = some { ob with slots := sl } := by
  by_cases hb : b ∈ fs
  · exact u.slot b ob q n hb hx
  · exact ⟨ob.slots, u.keep b ob q n hb hx⟩
theorem Un.trans (a : Un fs ex H H1 h h1) (b : Un fs ex H1 H2 h1 h2) : Un fs ex H H2 h h2 where
  keep := fun c ob q n hc hx => b.keep c ob (a.keep c ob q n hc hx) (a.free c ob q n hx) hc hx
  slot := fun c ob q n hc hx => by
    obtain ⟨sl, e1⟩ := a.slot c ob q n hc hx
    obtain ⟨sl', e2⟩ := b.slot c _ e1 (a.free c ob q n hx) hc hx
    exact ⟨sl', e2⟩
  free := fun c ob q n hx => by
    obtain ⟨o', e1⟩ := a.there c ob q hx
    exact b.free c o' e1 (a.free c ob q n hx) hx
  there := fun c ob q hx => by
    obtain ⟨o', e1⟩ := a.there c ob q hx
    exact b.there c o' e1 hx
  tups := fun c xs q => b.tups c xs (a.tups c xs q)
  frzs := fun c ob xs q => b.frzs c ob xs (a.frzs c ob xs q)
  tbls := fun c ps q => by
    obtain ⟨m1, e1⟩ := a.tbls c ps q
    obtain ⟨m2, e2⟩ := b.tbls c _ e1
    exact ⟨m1 ++ m2, by rw [e2, Array.append_assoc]⟩
theorem Un.kept (k : ∀ b u, h.get? b = some u → h'.get? b = some u) : Un fs ex H H h h' :=
  ⟨fun b ob q _ _ _ => k b ob q, fun b ob q _ _ _ => ⟨ob.slots, k b ob q⟩, fun _ _ _ n _ => n, fun b ob q _ => ⟨ob, k b ob q⟩, fun _ _ q => q, fun _ _ _ q => q, fun _ ps q => ⟨#[], by rw [q]; simp⟩⟩
theorem Un.refl : Un fs ex H H h h := Un.kept fun _ _ q => q
theorem Un.laid (k : ∀ b u, h.get? b = some u → h'.get? b = some u) (hp : h.objs.size ≤ a) (hn : H a = none) : Un fs ex H (upd H a o) h h' where
  keep := fun b u q _ _ _ => k b u q
  slot := fun b u q _ _ _ => ⟨u.slots, k b u q⟩
  free := fun b u q n _ => by rw [upd_ne (Nat.ne_of_lt (Nat.lt_of_lt_of_le (Heap.lt_size q) hp))]; exact n
  there := fun b u q _ => ⟨u, k b u q⟩
  tups := fun b xs q => by rw [upd_ne (ne_of_none q hn)]; exact q
  frzs := fun b u xs q => by rw [upd_ne (ne_of_none q hn)]; exact q
  tbls := fun b ps q => ⟨#[], by rw [upd_ne (ne_of_none q hn), q]; simp⟩
theorem Un.write (mu : Mut (H x)) (he : e = x ∨ H e = some (.own x)) (k : ∀ b u, b ≠ e → h.get? b = some u → h'.get? b = some u) (heo : ∃ u, h'.get? e = some u) : Un fs ex H (upd H x o) h h' := by
  have hx : ∀ b, H b = none → b ≠ x := fun b n z => by subst z; rw [n] at mu; exact mu
  have hb : ∀ b, H b = none → b ≠ e := fun b n z => by
    subst z
    rcases he with r | r
    · exact hx b n r
    · rw [n] at r; cases r
  have hm : ∀ b u, H b = some u → ¬ Mut (some u) → b ≠ x := fun b u q nm z => by subst z; rw [q] at mu; exact nm mu
  refine ⟨fun b u q n _ _ => k b u (hb b n) q, fun b u q n _ _ => ⟨u.slots, k b u (hb b n) q⟩, fun b u q n _ => by rw [upd_ne (hx b n)]; exact n, fun b u q _ => ?_,
    fun b xs q => by rw [upd_ne (hm b _ q fun z => z)]; exact q, fun b u xs q => by rw [upd_ne (hm b _ q fun z => z)]; exact q, fun b ps q => ⟨#[], by rw [upd_ne (hm b _ q fun z => z), q]; simp⟩⟩
  by_cases hbe : b = e
  · subst hbe; exact heo
  · exact ⟨u, k b u hbe q⟩
theorem Un.mono (u : Un fs ex H H1 h h1) (hs : ∀ b ∈ fs, b ∈ fs') (hx : ∀ b ∈ ex, b ∈ ex') : Un fs' ex' H H1 h h1 :=
  ⟨fun b ob q n hb he => u.keep b ob q n (fun z => hb (hs b z)) fun z => he (hx b z), fun _ _ q n _ he => u.any q n fun z => he (hx _ z), fun b ob q n he => u.free b ob q n fun z => he (hx b z), fun b ob q he => u.there b ob q fun z => he (hx b z), u.tups, u.frzs, u.tbls⟩
end

/-! ### the heap without what is tracked -/
def trk (h : Heap) (H : Hp) : List Addr := (List.range h.objs.size).filter fun a => (H a).isSome
def hidT (h : Heap) (H : Hp) : Heap := PySem.W.hideAll h (trk h H)
theorem hidT_size (h : Heap) (H : Hp) : (hidT h H).objs.size = h.objs.size := PySem.W.hideAll_size _ _
theorem hidT_get {h : Heap} {H : Hp} {b : Addr} {o : Obj} (e : h.get? b = some o) (n : H b = none) : (hidT h H).get? b = some o :=
  PySem.W.hideAll_get _ e fun hm => by
    have q : (H b).isSome = true := (List.mem_filter.mp hm).2
    rw [n] at q; simp at q
theorem of_hidT {h : Heap} {H : Hp} {b : Addr} {o : Obj} (e : (hidT h H).get? b = some o) : h.get? b = some o ∧ H b = none := by
  have e' : h.get? b = some o := PySem.W.of_hideAll (trk h H) e
  refine ⟨e', ?_⟩
  cases q : H b with
  | none => rfl
  | some x =>
    have hm : b ∈ trk h H := List.mem_filter.mpr ⟨List.mem_range.mpr (Heap.lt_size e'), by simp [q]⟩
    have z : (hidT h H).get? b = none := PySem.W.hideAll_none (trk h H) hm
    rw [z] at e; cases e

/-! ### OpenK's ledger, filled with every new object but one -/
def allNews (g h : Heap) (L : Addr) : List (Addr × Obj) := (List.range h.objs.size).filterMap fun a => if a = L ∨ (g.get? a).isSome = true then none else (h.get? a).map fun o => (a, o)
theorem mem_allNews {g h : Heap} {L a : Addr} {o : Obj} (h1 : a ≠ L) (h2 : g.get? a = none) (h3 : h.get? a = some o) : (a, o) ∈ allNews g h L :=
  List.mem_filterMap.mpr ⟨a, List.mem_range.mpr (Heap.lt_size h3), by simp [h1, h2, h3]⟩
theorem of_mem_allNews {g h : Heap} {L : Addr} {p : Addr × Obj} (hp : p ∈ allNews g h L) : p.1 ≠ L ∧ g.get? p.1 = none ∧ h.get? p.1 = some p.2 := by
  obtain ⟨b, _, e⟩ := List.mem_filterMap.mp hp
  split at e
  · cases e
  · rename_i hn
    cases q : h.get? b with
    | none => rw [q] at e; simp at e
    | some u =>
      rw [q] at e
      simp only [Option.map_some, Option.some.injEq] at e
      subst e
      refine ⟨fun z => hn (.inl z), ?_, q⟩
      show g.get? b = none
      cases r : g.get? b with
      | none => rfl
      | some v => exact (hn (.inr (by simp [r]))).elim
def rest (g h : Heap) (L d : Addr) : List (Addr × Obj) := (allNews g h L).filter fun p => decide (p.1 ≠ d)
theorem rest_ne {g h : Heap} {L d : Addr} : ∀ p ∈ rest g h L d, p.1 ≠ d := fun p hp => of_decide_eq_true (List.mem_filter.mp hp).2
theorem mem_rest {g h : Heap} {L d a : Addr} {o : Obj} (h1 : a ≠ L) (h2 : g.get? a = none) (h3 : h.get? a = some o) (h4 : a ≠ d) : (a, o) ∈ rest g h L d :=
  List.mem_filter.mpr ⟨mem_allNews h1 h2 h3, decide_eq_true h4⟩
theorem news_all {g h : Heap} {L : Addr} : News g L h (allNews g h L) := fun p hp => let ⟨a, b, c⟩ := of_mem_allNews hp; ⟨c, a, b⟩
theorem news_at {g h : Heap} {L d : Addr} {o : Obj} (h1 : d ≠ L) (h2 : g.get? d = none) (h3 : h.get? d = some o) : News g L h ((d, o) :: rest g h L d) := fun p hp => by
  rcases List.mem_cons.mp hp with rfl | hp
  · exact ⟨h3, h1, h2⟩
  · exact news_all p (List.mem_filter.mp hp).1
/-- behind a rule that changed d alone: all else but the frame is kept -/
theorem kept_of_news {g h h' : Heap} {L d : Addr} {m : Str → Option Value} (k : ∀ b o, g.get? b = some o → h.get? b = some o) (F : Fr g L h' m) (N : News g L h' (rest g h L d)) :
    ∀ b o, b ≠ L → b ≠ d → h.get? b = some o → h'.get? b = some o := fun b o h1 h2 e => by
  cases q : g.get? b with
  | some u =>
    have := k b u q
    rw [e] at this; cases this
    exact F.keep b _ q
  | none => exact (N (b, o) (mem_rest h1 q e h2)).1
end L2

namespace L2
open PySem PySem.Spec PyProof.Rows

/-- the module's facts, over the base: the heap at the law's entry without what is tracked there -/
structure Mod (K : PySem.W.Frag) (mg : Str → Option Value) (base : Heap) : Prop where
  kin : K.In base
  glob : base.Ns mainGlobals mg
  blt : ∃ mb, base.Ns builtinsNs mb ∧ ∀ x : Str, x ≠ "__name__" → mb x = bootBuiltins x
  nolimit : base.NoLimit

/-- the context: a def's body (or a comprehension's block) running. base: fixed through the whole law; s₀, H₀: the entry; outer: the frames whose slots others may change (a def's callers); stack: all frames that run;
   ex: iterators that were made ahead of the entry and are walked here (a comprehension's); fn: the names whose cells were made at the entry (a def: all; a comprehension's block: its own); calm: not within an except suite; pn: pins that every state bears; xe: what is wanted of an exception that leaves the code -/
structure Cx where
  prog : Program
  w : World
  K : PySem.W.Frag
  mg : Str → Option Value
  base : Heap
  A : Around
  N : List Str
  s₀ : Shared
  H₀ : Hp
  env : Env
  outer : List Env
  stack : List Env
  ex : List Addr
  fn : Str → Bool
  calm : Bool
  pn : List (Addr × Obj)
  xe : Value → Shared → Prop
/-- the callers' frames -/
def frs (l : List Env) : List Addr := l.filterMap (·.frame)
abbrev Cx.fs (X : Cx) : List Addr := frs X.outer

def Vis (sc : Scope) (x : Str) : Prop := sc.names.lookup x = some .local ∨ sc.names.lookup x = some .cell ∨ sc.names.lookup x = some .free
def Loc (sc : Scope) (x : Str) : Prop := sc.names.lookup x = some .local ∨ sc.names.lookup x = some .cell
def Look (env : Env) (h : Heap) (m : Str → Option Value) (x : Str) (u : Value) : Prop :=
  (env.kindOf x = some .local ∧ m x = some u) ∨ ((env.kindOf x = some .cell ∨ env.kindOf x = some .free) ∧ ∃ c, env.cells.lookup x = some c ∧ h.IsCell c (some u))

structure Cx.Ok (X : Cx) : Prop where
  mod : Mod X.K X.mg X.base
  kind : X.env.scope.kind = .function
  glob : X.env.globals = mainGlobals
  blt : X.env.builtins = builtinsNs
  above : X.s₀.heap.objs.size ≤ X.env.locals
  inj : ∀ x y c, X.env.cells.lookup x = some c → X.env.cells.lookup y = some c → x = y
  has : ∀ x, (X.env.kindOf x = some .cell ∨ X.env.kindOf x = some .free) → ∃ c, X.env.cells.lookup x = some c
  cab : ∀ x c, X.fn x = true → X.env.cells.lookup x = some c → X.s₀.heap.objs.size ≤ c
  hd : X.calm = true → X.A.handled = none
  frames : X.A.frames = some X.stack
  stk : X.stack = X.outer ∨ (X.stack = X.env :: X.outer ∧ X.env.frame = some X.env.locals)
  exf : ∀ b ∈ X.ex, b ≠ X.env.locals ∧ ∀ x c, X.env.cells.lookup x = some c → c ≠ b
  bs : ∀ b o, X.base.get? b = some o → X.s₀.heap.get? b = some o ∧ X.H₀ b = none
  bsz : X.base.objs.size ≤ X.s₀.heap.objs.size
  noex : ∀ b o, X.base.get? b = some o → b ∉ X.ex
  exfs : ∀ b ∈ X.ex, b ∉ X.fs
  funs : X.s₀.heap.FunFrames X.base X.outer
  frf : ∀ b ∈ X.fs, X.H₀ b = none

structure Inv (X : Cx) (pins : List (Addr × Obj)) (σ : List (Option V)) (H : Hp) (s : Shared) : Prop where
  ok : X.Ok
  os : s.os = X.s₀.os
  bare : AllBare s.gens
  base : Un X.fs X.ex X.H₀ H X.s₀.heap s.heap
  loc : ∃ m, s.heap.Ns X.env.locals m ∧ ∀ (i : Nat) (x : Str) (v : V), X.N[i]? = some x → σ[i]? = some (some v) → Vis X.env.scope x → ∃ u, RelV v u ∧ Look X.env s.heap m x u
  cell : ∀ x c, X.env.cells.lookup x = some c → ∃ v, s.heap.IsCell c v
  free : H X.env.locals = none
  freeC : ∀ x c, X.env.cells.lookup x = some c → H c = none
  pin : ∀ p ∈ X.pn ++ pins, s.heap.get? p.1 = some p.2 ∧ H p.1 = none ∧ p.1 ≠ X.env.locals ∧ p.1 ∉ X.fs ∧ ∀ v, p.2.data ≠ .cell v
  hok : HOk X.prog X.w H s.heap
  len : σ.length = X.N.length

section
variable {X : Cx} {pins : List (Addr × Obj)} {σ : List (Option V)} {H H' : Hp} {s : Shared} {h' : Heap}

theorem Cx.Ok.nofr (ok : X.Ok) {b : Addr} {o : Obj} (e : X.base.get? b = some o) : b ∉ X.fs := fun hb => by
  have := (ok.funs.mem hb).1
  rw [e] at this; cases this
theorem Inv.bs (I : Inv X pins σ H s) : ∀ b o, X.base.get? b = some o → s.heap.get? b = some o ∧ H b = none := fun b o e =>
  ⟨I.base.keep b o (I.ok.bs b o e).1 (I.ok.bs b o e).2 (I.ok.nofr e) (I.ok.noex b o e), I.base.free b o (I.ok.bs b o e).1 (I.ok.bs b o e).2 (I.ok.noex b o e)⟩
theorem Inv.bk (I : Inv X pins σ H s) : ∀ b o, X.base.get? b = some o → s.heap.get? b = some o := fun b o e => (I.bs b o e).1
theorem Inv.mod (I : Inv X pins σ H s) : Mod X.K X.mg X.base := I.ok.mod
theorem Inv.kIn (I : Inv X pins σ H s) : X.K.In s.heap := I.ok.mod.kin.keeps I.bk
theorem Inv.nolimit (I : Inv X pins σ H s) : s.heap.NoLimit := I.ok.mod.nolimit.keeps I.bk
/-- the frame over the base: for OpenK's rules (K.In X.base is I.mod.kin) -/
theorem Inv.fr (I : Inv X pins σ H s) : ∃ m, Fr X.base X.env.locals s.heap m :=
  let ⟨m, hn, _⟩ := I.loc
  ⟨m, hn, I.bk, Nat.le_trans I.ok.bsz I.ok.above⟩
theorem Inv.lt (I : Inv X pins σ H s) : X.env.locals < s.heap.objs.size := let ⟨_, hn, _⟩ := I.loc; hn.lt
theorem Inv.sz (I : Inv X pins σ H s) : X.s₀.heap.objs.size ≤ s.heap.objs.size := Nat.le_trans I.ok.above (Nat.le_of_lt I.lt)
theorem Inv.nofs (I : Inv X pins σ H s) {a : Addr} (h : s.heap.objs.size ≤ a) : a ∉ X.fs := fun hb => by
  obtain ⟨_, o, ho, _⟩ := I.ok.funs.mem hb
  exact absurd (Nat.lt_of_lt_of_le (Heap.lt_size ho) (Nat.le_trans I.sz h)) (Nat.lt_irrefl _)
theorem Inv.cne (I : Inv X pins σ H s) : ∀ x c, X.env.cells.lookup x = some c → c ≠ X.env.locals := fun x c e z => by
  obtain ⟨v, o, ho, hd⟩ := I.cell x c e
  obtain ⟨m, ⟨o', es, ep, ho', hd', _⟩, _⟩ := I.loc
  rw [z, ho'] at ho; cases ho; rw [hd'] at hd; cases hd
theorem Inv.funs (I : Inv X pins σ H s) : s.heap.FunFrames X.base X.outer := by
  have all : ∀ (l : List Env), (∀ b ∈ frs l, b ∈ X.fs) → X.s₀.heap.FunFrames X.base l → s.heap.FunFrames X.base l := by
    intro l
    induction l with
    | nil => intro _ _; trivial
    | cons env r ih =>
      intro hs hl
      obtain ⟨hk, ⟨L, o, hf, hn, ho, hd⟩, hr⟩ := hl
      have hL : L ∈ X.fs := hs L (by unfold frs; rw [List.filterMap_cons, hf]; exact List.mem_cons_self)
      obtain ⟨sl, e⟩ := I.base.slot L o ho (I.ok.frf L hL) hL fun z => I.ok.exfs L z hL
      exact ⟨hk, ⟨L, _, hf, hn, e, hd⟩, ih (fun b hb => hs b (by unfold frs; rw [List.filterMap_cons, hf]; exact List.mem_cons_of_mem _ hb)) hr⟩
  exact all X.outer (fun _ hb => hb) I.ok.funs

/-- the frames that run, for a call -/
theorem Inv.stack (I : Inv X pins σ H s) : s.heap.FunFrames X.base X.stack := by
  rcases I.ok.stk with e | ⟨e, hf⟩
  · rw [e]; exact I.funs
  · rw [e]
    obtain ⟨m, hn, _⟩ := I.loc
    refine .cons (by rw [I.ok.kind]; decide) hf hn ?_ I.funs
    exact Heap.get?_none_of_le (Nat.le_trans I.ok.bsz I.ok.above)
theorem Inv.stkSub (I : Inv X pins σ H s) : ∀ b ∈ frs X.stack, b ∈ X.env.locals :: X.fs := fun b hb => by
  rcases I.ok.stk with e | ⟨e, hf⟩
  · rw [e] at hb; exact List.mem_cons_of_mem _ hb
  · rw [e] at hb
    unfold frs at hb
    rw [List.filterMap_cons, hf] at hb
    exact hb
theorem Inv.stkFree (I : Inv X pins σ H s) : ∀ b ∈ frs X.stack, H b = none := fun b hb => by
  rcases List.mem_cons.mp (I.stkSub b hb) with e | hb
  · rw [e]; exact I.free
  · obtain ⟨_, o, ho, _⟩ := I.ok.funs.mem hb
    exact I.base.free b o ho (I.ok.frf b hb) fun z => I.ok.exfs b z hb

/-- THE STEP: the untracked objects but the frame and the records at ch are kept (the callers' frames up to slots), the frame's map is kept, the new abstract heap is held -/
theorem Inv.step {g' : Array GenState} {t' : Nat} {d' : Drawn} {ch : List Addr} (I : Inv X pins σ H s)
    (hch : ∀ b ∈ ch, (b ∈ X.ex ∨ X.s₀.heap.objs.size ≤ b) ∧ b ≠ X.env.locals ∧ (∀ x c, X.env.cells.lookup x = some c → c ≠ b) ∧ ∀ p ∈ X.pn ++ pins, p.1 ≠ b)
    (keep : ∀ b o, b ≠ X.env.locals → b ∉ X.fs → b ∉ ch → s.heap.get? b = some o → H b = none → h'.get? b = some o)
    (slot : ∀ b o, b ≠ X.env.locals → b ∈ X.fs → b ∉ ch → s.heap.get? b = some o → H b = none → ∃ sl, h'.get? b = some { o with slots := sl }) (free : ∀ b o, b ∉ ch → s.heap.get? b = some o → H b = none → H' b = none)
    (there : ∀ b o, b ∉ ch → s.heap.get? b = some o → ∃ o', h'.get? b = some o')
    (tups : ∀ b xs, H b = some (.tup xs) → H' b = some (.tup xs)) (frzs : ∀ b o u, H b = some (.frz o u) → H' b = some (.frz o u)) (tbls : ∀ b ps, H b = some (.tbl ps) → ∃ more, H' b = some (.tbl (ps ++ more)))
    (ns : ∀ m, s.heap.Ns X.env.locals m → h'.Ns X.env.locals m) (hok : HOk X.prog X.w H' h') (hg : AllBare g') :
    Inv X pins σ H' { s with heap := h', gens := g', drawn := d', toks := t' } := by
  have neL : ∀ b o, X.s₀.heap.get? b = some o → b ≠ X.env.locals := fun b o e => Nat.ne_of_lt (Nat.lt_of_lt_of_le (Heap.lt_size e) I.ok.above)
  have neC : ∀ b o, X.s₀.heap.get? b = some o → b ∉ X.ex → b ∉ ch := fun b o e hx hb => by
    rcases (hch b hb).1 with z | z
    · exact hx z
    · exact absurd (Nat.lt_of_lt_of_le (Heap.lt_size e) z) (Nat.lt_irrefl _)
  have cellK : ∀ x c, X.env.cells.lookup x = some c → ∀ v, s.heap.IsCell c v → h'.IsCell c v := fun x c e v ⟨o, ho, hd⟩ => by
    have nch : c ∉ ch := fun z => (hch c z).2.2.1 x c e rfl
    by_cases hc : c ∈ X.fs
    · obtain ⟨sl, q⟩ := slot c o (I.cne x c e) hc nch ho (I.freeC x c e)
      exact ⟨_, q, hd⟩
    · exact ⟨o, keep c o (I.cne x c e) hc nch ho (I.freeC x c e), hd⟩
  refine ⟨I.ok, I.os, hg, ⟨fun b o e n hb hx => ?_, fun b o e n hb hx => ?_, fun b o e n hx => ?_, fun b o e hx => ?_, fun b xs e => tups b xs (I.base.tups b xs e), fun b o xs e => frzs b o xs (I.base.frzs b o xs e), fun b ps e => ?_⟩, ?_, fun x c e => ?_, ?_, fun x c e => ?_, fun p hp => ?_, hok, I.len⟩
  · exact keep b o (neL b o e) hb (neC b o e hx) (I.base.keep b o e n hb hx) (I.base.free b o e n hx)
  · obtain ⟨sl, e1⟩ := I.base.slot b o e n hb hx
    obtain ⟨sl', e2⟩ := slot b _ (neL b o e) hb (neC b o e hx) e1 (I.base.free b o e n hx)
    exact ⟨sl', e2⟩
  · obtain ⟨o', e1⟩ := I.base.there b o e hx
    exact free b o' (neC b o e hx) e1 (I.base.free b o e n hx)
  · obtain ⟨o', e1⟩ := I.base.there b o e hx
    exact there b o' (neC b o e hx) e1
  · obtain ⟨m1, e1⟩ := I.base.tbls b ps e
    obtain ⟨m2, e2⟩ := tbls b _ e1
    exact ⟨m1 ++ m2, by rw [e2, Array.append_assoc]⟩
  · obtain ⟨m, hn, hl⟩ := I.loc
    refine ⟨m, ns m hn, fun i x v e1 e2 e3 => ?_⟩
    obtain ⟨u, r, l⟩ := hl i x v e1 e2 e3
    refine ⟨u, r, ?_⟩
    rcases l with l | ⟨k, c, e, z⟩
    · exact .inl l
    · exact .inr ⟨k, c, e, cellK x c e _ z⟩
  · obtain ⟨v, z⟩ := I.cell x c e
    exact ⟨v, cellK x c e v z⟩
  · obtain ⟨m, ⟨o, _, _, ho, _⟩, _⟩ := I.loc
    exact free _ o (fun z => (hch _ z).2.1 rfl) ho I.free
  · obtain ⟨v, o, ho, hd⟩ := I.cell x c e
    exact free c o (fun z => (hch c z).2.2.1 x c e rfl) ho (I.freeC x c e)
  · obtain ⟨e, n, ne, nf, d⟩ := I.pin p hp
    have nch : p.1 ∉ ch := fun z => (hch p.1 z).2.2.2 p hp rfl
    exact ⟨keep p.1 p.2 ne nf nch e n, free p.1 p.2 nch e n, ne, nf, d⟩
/-- .. where the frame's own object is kept too -/
theorem Inv.un {t' : Nat} (I : Inv X pins σ H s) (u : Un X.fs [] H H' s.heap h') (hok : HOk X.prog X.w H' h') : Inv X pins σ H' { s with heap := h', toks := t' } := by
  obtain ⟨m, ⟨o, es, ep, ho, r⟩, _⟩ := id I.loc
  obtain ⟨sl, hL⟩ := u.any ho I.free (by simp)
  exact I.step (g' := s.gens) (d' := s.drawn) (ch := []) (fun _ z => nomatch z) (fun b o _ hb _ e n => u.keep b o e n hb (by simp)) (fun b o _ hb _ e n => u.slot b o e n hb (by simp)) (fun b o _ e n => u.free b o e n (by simp)) (fun b o _ e => u.there b o e (by simp)) u.tups u.frzs u.tbls (fun m' hm => by
    obtain ⟨o', es', ep', ho', r'⟩ := hm
    rw [ho] at ho'; cases ho'
    exact ⟨_, es', ep', hL, r'⟩) hok I.bare
/-- behind a call (or a comprehension's block): the slots of this frame may have changed too, the records at ch may have turned -/
theorem Inv.call {g' : Array GenState} {t' : Nat} {d' : Drawn} {ch : List Addr} (I : Inv X pins σ H s) (u : Un (frs X.stack) ch H H' s.heap h') (hok : HOk X.prog X.w H' h') (hg : AllBare g')
    (hch : ∀ b ∈ ch, (b ∈ X.ex ∨ X.s₀.heap.objs.size ≤ b) ∧ b ≠ X.env.locals ∧ (∀ x c, X.env.cells.lookup x = some c → c ≠ b) ∧ ∀ p ∈ X.pn ++ pins, p.1 ≠ b) :
    Inv X pins σ H' { s with heap := h', gens := g', drawn := d', toks := t' } := by
  obtain ⟨m, ⟨o, es, ep, ho, r⟩, _⟩ := id I.loc
  obtain ⟨sl, hL⟩ := u.any ho I.free fun z => (hch _ z).2.1 rfl
  exact I.step (ch := ch) hch (fun b o hL hb hc e n => u.keep b o e n (fun z => (List.mem_cons.mp (I.stkSub b z)).elim hL hb) hc) (fun b o _ _ hc e n => u.any e n hc) (fun b o hc e n => u.free b o e n hc) (fun b o hc e => u.there b o e hc) u.tups u.frzs u.tbls (fun m' hm => by
    obtain ⟨o', es', ep', ho', r'⟩ := hm
    rw [ho] at ho'; cases ho'
    exact ⟨_, es', ep', hL, r'⟩) hok hg
/-- an untracked record of ours (an iterator) has turned -/
theorem Inv.turned {t' : Nat} {it : Addr} (I : Inv X pins σ H s) (k : ∀ b o, b ≠ it → s.heap.get? b = some o → h'.get? b = some o) (hn : H it = none) (hL : it ≠ X.env.locals)
    (h1 : it ∈ X.ex ∨ X.s₀.heap.objs.size ≤ it) (h2 : ∀ x c, X.env.cells.lookup x = some c → c ≠ it) (h3 : ∀ p ∈ X.pn ++ pins, p.1 ≠ it) : Inv X pins σ H { s with heap := h', toks := t' } := by
  have nit : ∀ b u, H b = some u → b ≠ it := fun b u e z => by rw [z, hn] at e; cases e
  refine I.step (g' := s.gens) (d' := s.drawn) (ch := [it]) (fun b hb => ?_) (fun b o _ _ hc e _ => k b o (fun z => hc (by simp [z])) e) (fun b o _ _ hc e _ => ⟨o.slots, k b o (fun z => hc (by simp [z])) e⟩) (fun _ _ _ _ n => n)
    (fun b o hc e => ⟨o, k b o (fun z => hc (by simp [z])) e⟩) (fun _ _ e => e) (fun _ _ _ e => e) (fun b ps e => ⟨#[], by rw [e]; simp⟩) (fun m hm => ?_) (fun b u e => ?_) I.bare
  · have e : b = it := by simpa using hb
    subst e
    exact ⟨h1, hL, h2, h3⟩
  · obtain ⟨o, es, ep, ho, r⟩ := hm
    exact ⟨o, es, ep, k _ o (Ne.symm hL) ho, r⟩
  · refine (I.hok b u e).stay (fun c v hc q => k c v ?_ q) (fun _ q => q) fun _ _ q => q
    rcases hc with z | z
    · rw [z]; exact nit b u e
    · exact nit c _ z
theorem Inv.tok (I : Inv X pins σ H s) (t : Nat) : Inv X pins σ H { s with toks := t } := I.un (h' := s.heap) (t' := t) Un.refl I.hok
/-- all objects kept -/
theorem Inv.kept {t' : Nat} (I : Inv X pins σ H s) (k : ∀ b u, s.heap.get? b = some u → h'.get? b = some u) : Inv X pins σ H { s with heap := h', toks := t' } := I.un (Un.kept k) (I.hok.kept k)
/-- a new object laid and tracked -/
theorem Inv.laid {a : Addr} {o : HO} {t' : Nat} (I : Inv X pins σ H s) (k : ∀ b u, s.heap.get? b = some u → h'.get? b = some u) (hp : s.heap.objs.size ≤ a) (new : ObjOk X.prog X.w (upd H a o) h' a o) :
    Inv X pins σ (upd H a o) { s with heap := h', toks := t' } := I.un (Un.laid k hp (I.hok.fresh hp)) (I.hok.laid k hp new)
/-- an object written -/
theorem Inv.write {x e : Addr} {o : HO} {t' : Nat} (I : Inv X pins σ H s) (mu : Mut (H x)) (he : e = x ∨ H e = some (.own x)) (k : ∀ b u, b ≠ e → s.heap.get? b = some u → h'.get? b = some u) (heo : ∃ u, h'.get? e = some u)
    (new : ObjOk X.prog X.w (upd H x o) h' x o) : Inv X pins σ (upd H x o) { s with heap := h', toks := t' } := I.un (Un.write mu he k heo) (I.hok.write mu he k heo new)
/-- forgetting slots, pins -/
theorem Inv.weak {σ' : List (Option V)} (I : Inv X pins σ H s) (hl : σ'.length = σ.length) (w : ∀ (i : Nat) v, σ'[i]? = some (some v) → σ[i]? = some (some v)) : Inv X pins σ' H s :=
  ⟨I.ok, I.os, I.bare, I.base, let ⟨m, hn, hl'⟩ := I.loc; ⟨m, hn, fun i x v e1 e2 e3 => hl' i x v e1 (w i v e2) e3⟩, I.cell, I.free, I.freeC, I.pin, I.hok, hl.trans I.len⟩
theorem Inv.pins_of {pins' : List (Addr × Obj)} (I : Inv X pins σ H s) (h : ∀ p ∈ pins', s.heap.get? p.1 = some p.2 ∧ H p.1 = none ∧ p.1 ≠ X.env.locals ∧ p.1 ∉ X.fs ∧ ∀ v, p.2.data ≠ .cell v) : Inv X pins' σ H s :=
  ⟨I.ok, I.os, I.bare, I.base, I.loc, I.cell, I.free, I.freeC, fun p hp => (List.mem_append.mp hp).elim (fun z => I.pin p (List.mem_append_left _ z)) (h p), I.hok, I.len⟩

theorem nodup_ix {N : List Str} (hN : N.Nodup) {i j : Nat} {x : Str} (a : N[i]? = some x) (b : N[j]? = some x) : i = j := by
  obtain ⟨h1, e1⟩ := List.getElem?_eq_some_iff.mp a
  obtain ⟨h2, e2⟩ := List.getElem?_eq_some_iff.mp b
  exact (List.getElem_inj hN).mp (e1.trans e2.symm)

/-- a name is stored; what changed -/
theorem store_ok2 {M : Model} {A : Around} {E : Value → Shared → Prop} {i : Nat} {x : Str} {v : V} {u : Value} {Q : Unit → Shared → Prop} (I : Inv X pins σ H s) (hN : X.N.Nodup) (hi : X.N[i]? = some x) (hx : Loc X.env.scope x) (r : RelV v u)
    (h : ∀ s', Inv X pins (σ.set i (some v)) H s' → (∃ a, Heap.SameBut a s.heap s'.heap ∧ (a = X.env.locals ∨ X.env.cells.lookup x = some a)) → Q () s') (hf : X.fn x = true ∨ X.env.scope.names.lookup x = some .local := by first | exact .inl rfl | exact .inr rfl | assumption) : wpAny M A (storeName X.env x u) Q E s := by
  obtain ⟨m, hn, hl⟩ := id I.loc
  have hcls : (X.env.scope.kind == .class || (X.env.scope.kind == .module && X.env.locals != X.env.globals)) = false := by rw [I.ok.kind]; rfl
  have hiσ : i < σ.length := by rw [I.len]; exact (List.getElem?_eq_some_iff.mp hi).1
  have cne := I.cne
  have tracked : ∀ {a : Addr} {h' : Heap}, (∃ o, s.heap.get? a = some o ∧ H a = none) → Heap.SameBut a s.heap h' → HOk X.prog X.w H h' := fun {a h'} ha hs b ob e => by
    obtain ⟨_, _, hfree⟩ := ha
    refine (I.hok b ob e).stay (fun c w' hc q => (hs.2 c ?_).trans q) (fun _ q => q) fun _ _ q => q
    rintro rfl
    rcases hc with rfl | hc
    · rw [hfree] at e; cases e
    · rw [hfree] at hc; cases hc
  rcases hx with hk | hk
  · refine wpAny_storeName_local hk hn (fun h' hn' hs => ?_) hcls
    obtain ⟨oL, _, _, hoL, _⟩ := id hn
    refine h _ ⟨I.ok, I.os, I.bare, ⟨fun b o e n hb hx => ?_, fun b o e n hb hx => ?_, I.base.free, fun b o e hx => ?_, I.base.tups, I.base.frzs, I.base.tbls⟩, ⟨_, hn', fun j y v' e1 e2 e3 => ?_⟩, fun y c e => ?_, I.free, I.freeC, fun p hp => ?_, tracked ⟨oL, hoL, I.free⟩ hs, by simpa using I.len⟩ ⟨_, hs, .inl rfl⟩
    · exact (hs.2 b (Nat.ne_of_lt (Nat.lt_of_lt_of_le (Heap.lt_size e) I.ok.above))).trans (I.base.keep b o e n hb hx)
    · obtain ⟨sl, e1⟩ := I.base.slot b o e n hb hx
      exact ⟨sl, (hs.2 b (Nat.ne_of_lt (Nat.lt_of_lt_of_le (Heap.lt_size e) I.ok.above))).trans e1⟩
    · obtain ⟨o', e1⟩ := I.base.there b o e hx
      exact ⟨o', (hs.2 b (Nat.ne_of_lt (Nat.lt_of_lt_of_le (Heap.lt_size e) I.ok.above))).trans e1⟩
    · by_cases hj : j = i
      · subst hj
        rw [hi] at e1; cases e1
        rw [List.getElem?_set_self hiσ] at e2
        cases e2
        exact ⟨u, r, .inl ⟨hk, by simp⟩⟩
      · rw [List.getElem?_set_ne (Ne.symm hj)] at e2
        obtain ⟨u', r', q⟩ := hl j y v' e1 e2 e3
        refine ⟨u', r', ?_⟩
        rcases q with ⟨k, e⟩ | ⟨k, c, e, z⟩
        · refine .inl ⟨k, ?_⟩
          have : y ≠ x := fun e => hj (nodup_ix hN e1 (e ▸ hi))
          simp [this, e]
        · exact .inr ⟨k, c, e, z.sameBut hs (cne y c e)⟩
    · obtain ⟨w', z⟩ := I.cell y c e
      exact ⟨w', z.sameBut hs (cne y c e)⟩
    · obtain ⟨e, n, ne, nf, d⟩ := I.pin p hp
      exact ⟨(hs.2 p.1 ne).trans e, n, ne, nf, d⟩
  · have hfn : X.fn x = true := by
      rcases hf with z | z
      · exact z
      · rw [z] at hk; cases hk
    obtain ⟨c, hc⟩ := I.ok.has x (.inl hk)
    obtain ⟨w', z⟩ := I.cell x c hc
    refine wpAny_storeName_cell I.ok.kind hk hc z (fun h' hc' hs => ?_)
    obtain ⟨oc, hoc, hocd⟩ := id z
    refine h { s with heap := h' } ⟨I.ok, I.os, I.bare, ⟨fun b o e n hb hx => ?_, fun b o e n hb hx => ?_, I.base.free, fun b o e hx => ?_, I.base.tups, I.base.frzs, I.base.tbls⟩, ⟨m, hn.sameBut hs (Ne.symm (cne x c hc)), fun j y v' e1 e2 e3 => ?_⟩, fun y c' e => ?_, I.free, I.freeC, fun p hp => ?_, tracked ⟨oc, hoc, I.freeC x c hc⟩ hs, by simpa using I.len⟩ ⟨c, hs, .inr hc⟩
    · exact (hs.2 b (Nat.ne_of_lt (Nat.lt_of_lt_of_le (Heap.lt_size e) (I.ok.cab x c hfn hc)))).trans (I.base.keep b o e n hb hx)
    · obtain ⟨sl, e1⟩ := I.base.slot b o e n hb hx
      exact ⟨sl, (hs.2 b (Nat.ne_of_lt (Nat.lt_of_lt_of_le (Heap.lt_size e) (I.ok.cab x c hfn hc)))).trans e1⟩
    · obtain ⟨o', e1⟩ := I.base.there b o e hx
      exact ⟨o', (hs.2 b (Nat.ne_of_lt (Nat.lt_of_lt_of_le (Heap.lt_size e) (I.ok.cab x c hfn hc)))).trans e1⟩
    · by_cases hj : j = i
      · subst hj
        rw [hi] at e1; cases e1
        rw [List.getElem?_set_self hiσ] at e2
        cases e2
        exact ⟨u, r, .inr ⟨.inl hk, c, hc, hc'⟩⟩
      · rw [List.getElem?_set_ne (Ne.symm hj)] at e2
        obtain ⟨u', r', q⟩ := hl j y v' e1 e2 e3
        refine ⟨u', r', ?_⟩
        rcases q with q | ⟨k, c', e, z'⟩
        · exact .inl q
        · refine .inr ⟨k, c', e, z'.sameBut hs ?_⟩
          rintro rfl
          exact hj (nodup_ix hN e1 (I.ok.inj _ _ _ e hc ▸ hi))
    · by_cases hcc : c' = c
      · subst hcc; exact ⟨_, hc'⟩
      · obtain ⟨w2, z2⟩ := I.cell y c' e
        exact ⟨w2, z2.sameBut hs hcc⟩
    · obtain ⟨e, n, ne, nf, d⟩ := I.pin p hp
      refine ⟨(hs.2 p.1 ?_).trans e, n, ne, nf, d⟩
      intro q
      rw [q, hoc] at e
      have q' : oc = p.2 := Option.some.inj e
      exact d w' (by rw [← q']; exact hocd)
theorem store_ok {M : Model} {A : Around} {E : Value → Shared → Prop} {i : Nat} {x : Str} {v : V} {u : Value} {Q : Unit → Shared → Prop} (I : Inv X pins σ H s) (hN : X.N.Nodup) (hi : X.N[i]? = some x) (hx : Loc X.env.scope x) (r : RelV v u)
    (h : ∀ s', Inv X pins (σ.set i (some v)) H s' → Q () s') (hf : X.fn x = true ∨ X.env.scope.names.lookup x = some .local := by first | exact .inl rfl | exact .inr rfl | assumption) : wpAny M A (storeName X.env x u) Q E s :=
  store_ok2 I hN hi hx r (fun s' I' _ => h s' I') hf
/-- behind a call or a block, the state as it is -/
theorem Inv.call' {s' : Shared} {ch : List Addr} (I : Inv X pins σ H s) (ho : s'.os = s.os) (u : Un (frs X.stack) ch H H' s.heap s'.heap) (hok : HOk X.prog X.w H' s'.heap) (hg : AllBare s'.gens)
    (hch : ∀ b ∈ ch, (b ∈ X.ex ∨ X.s₀.heap.objs.size ≤ b) ∧ b ≠ X.env.locals ∧ (∀ x c, X.env.cells.lookup x = some c → c ≠ b) ∧ ∀ p ∈ X.pn ++ pins, p.1 ≠ b) : Inv X pins σ H' s' := by
  obtain ⟨h', g', d', t', o'⟩ := s'
  have e : o' = s.os := ho
  subst e
  exact I.call (g' := g') (t' := t') (d' := d') u hok hg hch
end

/-! ### the judgements -/
/-- an exception: its class, its own dict's address (where it has one), the abstract heap behind it -/
abbrev XK := Value → Option Addr → Hp → Prop
abbrev St := List (Option V)
abbrev VK := V → Hp → Prop
/-- an expression's reading; a test's; an argument list's -/
abbrev TE := St → Hp → VK → Prop
abbrev TT := St → Hp → (Bool → Hp → Prop) → Prop
abbrev TA := St → Hp → (List V → Hp → Prop) → Prop
/-- what is wanted behind a statement -/
structure Ends where
  nx : St → Hp → Prop
  rt : VK
  bk : St → Hp → Prop := fun _ _ => False
  ct : St → Hp → Prop := fun _ _ => False
abbrev TS := Ends → St → Hp → Prop

def EP (X : Cx) (pins : List (Addr × Obj)) (σ : St) (Q : VK) (u : Value) (s' : Shared) : Prop := ∃ v H', Inv X pins σ H' s' ∧ RelV v u ∧ Q v H'
def TP (X : Cx) (pins : List (Addr × Obj)) (σ : St) (Q : Bool → Hp → Prop) (b : Bool) (s' : Shared) : Prop := ∃ H', Inv X pins σ H' s' ∧ Q b H'
def AP (X : Cx) (pins : List (Addr × Obj)) (σ : St) (Q : List V → Hp → Prop) (us : List Value) (s' : Shared) : Prop := ∃ vs H', Inv X pins σ H' s' ∧ Vals vs us ∧ Q vs H'
def SP (X : Cx) (pins : List (Addr × Obj)) (D : Ends) (f : Flow) (s' : Shared) : Prop :=
  match f with
  | .next => ∃ σ' H', Inv X pins σ' H' s' ∧ D.nx σ' H'
  | .brk => ∃ σ' H', Inv X pins σ' H' s' ∧ D.bk σ' H'
  | .cont => ∃ σ' H', Inv X pins σ' H' s' ∧ D.ct σ' H'
  | .ret u => ∃ v σ' H', Inv X pins σ' H' s' ∧ RelV v u ∧ D.rt v H'

def PE (X : Cx) (e : Expr) (t : TE) : Prop :=
  ∀ (pins : List (Addr × Obj)) (s : Shared) (σ : St) (H : Hp) (Q : VK), Inv X pins σ H s → t σ H Q → wpAny (model X.prog X.w) X.A (eval e X.env) (EP X pins σ Q) X.xe s
def PT (X : Cx) (e : Expr) (t : TT) : Prop :=
  ∀ (pins : List (Addr × Obj)) (s : Shared) (σ : St) (H : Hp) (Q : Bool → Hp → Prop), Inv X pins σ H s → t σ H Q → wpAny (model X.prog X.w) X.A (isTrue e X.env (eval e X.env)) (TP X pins σ Q) X.xe s
/-- a test whatever its 'whole' is (and, or) -/
def PW (X : Cx) (e : Expr) (t : TT) : Prop :=
  ∀ (whole : Sem Value) (pins : List (Addr × Obj)) (s : Shared) (σ : St) (H : Hp) (Q : Bool → Hp → Prop), Inv X pins σ H s → t σ H Q → wpAny (model X.prog X.w) X.A (isTrue e X.env whole) (TP X pins σ Q) X.xe s
theorem PW.pt {X : Cx} {e : Expr} {t : TT} (h : PW X e t) : PT X e t := h _
/-- an argument list (no star), from the left -/
def PA (X : Cx) (es : List Expr) (t : TA) : Prop :=
  ∀ (pos : Pos) (pins : List (Addr × Obj)) (s : Shared) (σ : St) (H : Hp) (Q : List V → Hp → Prop), Inv X pins σ H s → t σ H Q → wpAny (model X.prog X.w) X.A (spliced (backTo pos (starEach es X.env))) (AP X pins σ Q) X.xe s
def PS (X : Cx) (st : Stmt) (t : TS) : Prop :=
  ∀ (pins : List (Addr × Obj)) (s : Shared) (σ : St) (H : Hp) (D : Ends), Inv X pins σ H s → t D σ H → wpAny (model X.prog X.w) X.A (exec st X.env) (SP X pins D) X.xe s
def PSs (X : Cx) (st : List Stmt) (t : TS) : Prop :=
  ∀ (pins : List (Addr × Obj)) (s : Shared) (σ : St) (H : Hp) (D : Ends), Inv X pins σ H s → t D σ H → wpAny (model X.prog X.w) X.A (execs st X.env) (SP X pins D) X.xe s
/-- weaken the end -/
theorem thn {α : Type} {t : Sem α} {Q Q' : α → Shared → Prop} {M : Model} {A : Around} {E : Value → Shared → Prop} {s : Shared} (h : wpAny M A t Q E s) (hQ : ∀ a s, Q a s → Q' a s) : wpAny M A t Q' E s := wpAny_mono h hQ fun _ _ x => x
end L2

namespace L2
open PySem PySem.Spec PyProof.Rows
section
variable {X : Cx}

/-- two expressions in a row -/
theorem bin {a b : Expr} {ta tb : TE} (ha : PE X a ta) (hb : PE X b tb) {pins : List (Addr × Obj)} {s : Shared} {σ : St} {H : Hp} {R : V → V → Hp → Prop} (I : Inv X pins σ H s) (h : ta σ H fun x H1 => tb σ H1 fun y H2 => R x y H2)
    {α : Type} {Q : α → Shared → Prop} {f : Value → Value → Sem α}
    (hf : ∀ v u s2 x y H2, Inv X pins σ H2 s2 → RelV x v → RelV y u → R x y H2 → wpAny (model X.prog X.w) X.A (f v u) Q X.xe s2) :
    wpAny (model X.prog X.w) X.A (eval a X.env) (fun v s₁ => wpAny (model X.prog X.w) X.A (eval b X.env) (fun u s₂ => wpAny (model X.prog X.w) X.A (f v u) Q X.xe s₂) X.xe s₁) X.xe s := by
  refine thn (ha pins s σ H _ I h) fun v s1 ⟨x, H1, I1, r1, q1⟩ => ?_
  refine thn (hb pins s1 σ H1 _ I1 q1) fun u s2 ⟨y, H2, I2, r2, q2⟩ => ?_
  exact hf v u s2 x y H2 I2 r1 r2 q2

/-! ### names and constants -/
def tVar (i : Nat) : TE := fun σ H Q => ∃ v, σ[i]? = some (some v) ∧ Q v H
def tC (v : V) : TE := fun _ H Q => Q v H
theorem pe_var {i : Nat} {x : Str} {pos : Pos} (hN : X.N[i]? = some x) (hv : Vis X.env.scope x) (hd : (x == ("__debug__" : Str)) = false := by decide) (hcd : (x == ("__classdict__" : Str)) = false := by decide) : PE X (.Name x pos) (tVar i) := by
  intro pins s σ H Q I h
  obtain ⟨v, e, h⟩ := h
  obtain ⟨m, hn, hl⟩ := I.loc
  obtain ⟨u, r, l⟩ := hl i x v hN e hv
  have fin : EP X pins σ Q u s := ⟨v, H, I, r, h⟩
  rcases l with ⟨hk, hm⟩ | ⟨hk, c, hc, hcell⟩
  · exact wpAny_Name (wpAny_loadName_local I.ok.kind hk hn hm fin) hd
  · rcases hk with hk | hk
    · exact wpAny_Name (wpAny_loadName_cell I.ok.kind hk hc hcell fin) hd
    · exact wpAny_Name (wpAny_loadName_free I.ok.kind hk hc hcell fin hcd) hd
theorem pe_int {i j pos} : PE X (.Constant (.int i) j pos) (tC (.int i)) := fun _ _ _ H _ I h => wpAny_Constant_int ⟨.int i, H, I.tok _, ⟨_, rfl⟩, h⟩
theorem pe_bl {b j pos} : PE X (.Constant (.bool b) j pos) (tC (.bl b)) := fun _ _ _ H _ I h => Constant_bool ⟨.bl b, H, I, rfl, h⟩
theorem pe_non {j pos} : PE X (.Constant .none j pos) (tC .non) := fun _ _ _ H _ I h => Constant_none ⟨.non, H, I, rfl, h⟩
theorem pe_str {x j pos} : PE X (.Constant (.str x) j pos) (tC (.str x)) := fun _ _ _ H _ I h => Calls.Constant_str ⟨.str x, H, I.tok _, ⟨_, rfl⟩, h⟩

/-- a global name of the def -/
def Gl (X : Cx) (x : Str) : Prop := X.env.kindOf x = some .globalImplicit
theorem ld_glob {E : Value → Shared → Prop} {pins : List (Addr × Obj)} {s : Shared} {σ : St} {H : Hp} {x : Str} {u : Value} {pos : Pos} {Q : Value → Shared → Prop} (I : Inv X pins σ H s) (hg : Gl X x) (hm : X.mg x = some u) (h : Q u s)
    (hd : (x == ("__debug__" : Str)) = false := by decide) : wpAny (model X.prog X.w) X.A (eval (.Name x pos) X.env) Q E s :=
  Calls.Name_function_global I.ok.kind hg (Calls.loadGlobal_global (by rw [I.ok.glob]; exact I.mod.glob.keeps I.bk) hm h) hd
theorem ld_blt {E : Value → Shared → Prop} {pins : List (Addr × Obj)} {s : Shared} {σ : St} {H : Hp} {x : Str} {u : Value} {pos : Pos} {Q : Value → Shared → Prop} (I : Inv X pins σ H s) (hg : Gl X x) (hm : X.mg x = none) (hv : bootBuiltins x = some u) (h : Q u s)
    (hn : x ≠ "__name__" := by decide) (hd : (x == ("__debug__" : Str)) = false := by decide) : wpAny (model X.prog X.w) X.A (eval (.Name x pos) X.env) Q E s := by
  obtain ⟨mb, h1, h2⟩ := I.mod.blt
  exact Calls.Name_function_global I.ok.kind hg (Calls.loadGlobal_builtin (by rw [I.ok.glob]; exact I.mod.glob.keeps I.bk) hm (by rw [I.ok.blt]; exact h1.keeps I.bk) ((h2 x hn).trans hv) h) hd
/-- a module's constant, a class, a function, as a value -/
theorem pe_glob {x : Str} {v : V} {u : Value} {pos : Pos} (hg : Gl X x) (hm : X.mg x = some u) (r : RelV v u) (hd : (x == ("__debug__" : Str)) = false := by decide) : PE X (.Name x pos) (tC v) :=
  fun _ _ _ H _ I h => ld_glob I hg hm ⟨v, H, I, r, h⟩ hd
theorem pe_bltn {x : Str} {v : V} {u : Value} {pos : Pos} (hg : Gl X x) (hm : X.mg x = none) (hv : bootBuiltins x = some u) (r : RelV v u) (hn : x ≠ "__name__" := by decide) (hd : (x == ("__debug__" : Str)) = false := by decide) : PE X (.Name x pos) (tC v) :=
  fun _ _ _ H _ I h => ld_blt I hg hm hv ⟨v, H, I, r, h⟩ hn hd

/-! ### arithmetic -/
/-- two ints -/
def t2I (ta tb : TE) (k : Int → Int → Hp → Prop) : St → Hp → Prop := fun σ H => ta σ H fun x H1 => tb σ H1 fun y H2 => ∃ i j, x = .int i ∧ y = .int j ∧ k i j H2
def tAdd (ta tb : TE) : TE := fun σ H Q => t2I ta tb (fun i j H2 => Q (.int (i + j)) H2) σ H
def tSub (ta tb : TE) : TE := fun σ H Q => t2I ta tb (fun i j H2 => Q (.int (i - j)) H2) σ H
/-- the left factor below 2^64 -/
def tMul (ta tb : TE) : TE := fun σ H Q => t2I ta tb (fun i j H2 => (-(2 ^ 64) < i ∧ i < 2 ^ 64) ∧ Q (.int (i * j)) H2) σ H
variable {a b : Expr} {ta tb : TE} {pos : Pos}
theorem pe_add (ha : PE X a ta) (hb : PE X b tb) : PE X (.BinOp a .Add b pos) (tAdd ta tb) := by
  intro pins s σ H Q I h
  refine wpAny_BinOp (bin ha hb I h fun v u s2 x y H2 I2 rx ry q => ?_)
  obtain ⟨i, j, rfl, rfl, q⟩ := q
  obtain ⟨t, rfl⟩ := rx
  obtain ⟨t', rfl⟩ := ry
  exact add_int ⟨.int _, H2, I2.tok _, ⟨_, rfl⟩, q⟩
theorem pe_sub (ha : PE X a ta) (hb : PE X b tb) : PE X (.BinOp a .Sub b pos) (tSub ta tb) := by
  intro pins s σ H Q I h
  refine wpAny_BinOp (bin ha hb I h fun v u s2 x y H2 I2 rx ry q => ?_)
  obtain ⟨i, j, rfl, rfl, q⟩ := q
  obtain ⟨t, rfl⟩ := rx
  obtain ⟨t', rfl⟩ := ry
  exact sub_int ⟨.int _, H2, I2.tok _, ⟨_, rfl⟩, q⟩
theorem pe_mul (ha : PE X a ta) (hb : PE X b tb) : PE X (.BinOp a .Mult b pos) (tMul ta tb) := by
  intro pins s σ H Q I h
  refine wpAny_BinOp (bin ha hb I h fun v u s2 x y H2 I2 rx ry q => ?_)
  obtain ⟨i, j, rfl, rfl, ⟨q1, q2⟩, q⟩ := q
  obtain ⟨t, rfl⟩ := rx
  obtain ⟨t', rfl⟩ := ry
  exact mul_int ⟨.int _, H2, I2.tok _, ⟨_, rfl⟩, q⟩ (.of_left (intBits_le_64 q1 q2))

/-! ### comparisons -/
def PC (X : Cx) (op : CmpOp) (a b : Expr) (t : TE) : Prop :=
  ∀ (pins : List (Addr × Obj)) (s : Shared) (σ : St) (H : Hp) (Q : VK), Inv X pins σ H s → t σ H Q →
    wpAny (model X.prog X.w) X.A (eval a X.env) (fun v s₁ => wpAny (model X.prog X.w) X.A (eval b X.env) (fun u s₂ => wpAny (model X.prog X.w) X.A (compareOp op v u) (EP X pins σ Q) X.xe s₂) X.xe s₁) X.xe s
theorem nobehind (b : Expr) {op : CmpOp} (h : op ≠ .In) (h2 : op ≠ .NotIn) : behindInMarks op b = false := by
  have e1 : (op == CmpOp.In) = false := by cases op <;> first | rfl | exact absurd rfl h
  have e2 : (op == CmpOp.NotIn) = false := by cases op <;> first | rfl | exact absurd rfl h2
  cases b <;> simp [behindInMarks, e1, e2]
def tCmp (p : Int → Int → Bool) (ta tb : TE) : TE := fun σ H Q => t2I ta tb (fun i j H2 => Q (.bl (p i j)) H2) σ H
abbrev tLt : TE → TE → TE := tCmp fun i j => decide (i < j)
abbrev tLe : TE → TE → TE := tCmp fun i j => decide (i ≤ j)
abbrev tGt : TE → TE → TE := tCmp fun i j => decide (j < i)
abbrev tGe : TE → TE → TE := tCmp fun i j => decide (j ≤ i)
abbrev tEqI : TE → TE → TE := tCmp fun i j => decide (i = j)
abbrev tNeI : TE → TE → TE := tCmp fun i j => !decide (i = j)
/-- a comparison of two ints, by its rule -/
theorem pc_int {op : CmpOp} {p : Int → Int → Bool} (ha : PE X a ta) (hb : PE X b tb)
    (rule : ∀ (i j : Int) (t u : Tok) (Q : Value → Shared → Prop) (s : Shared), Q (.bool (p i j)) s → wpAny (model X.prog X.w) X.A (compareOp op (.int i t) (.int j u)) Q X.xe s) : PC X op a b (tCmp p ta tb) := by
  intro pins s σ H Q I h
  refine bin ha hb I h fun v u s2 x y H2 I2 rx ry q => ?_
  obtain ⟨i, j, rfl, rfl, q⟩ := q
  obtain ⟨t, rfl⟩ := rx
  obtain ⟨t', rfl⟩ := ry
  exact rule i j t t' _ s2 ⟨.bl _, H2, I2, rfl, q⟩
theorem pc_lt (ha : PE X a ta) (hb : PE X b tb) : PC X .Lt a b (tLt ta tb) := pc_int ha hb fun _ _ _ _ _ _ h => lt_int h
theorem pc_le (ha : PE X a ta) (hb : PE X b tb) : PC X .LtE a b (tLe ta tb) := pc_int ha hb fun _ _ _ _ _ _ h => le_int h
theorem pc_gt (ha : PE X a ta) (hb : PE X b tb) : PC X .Gt a b (tGt ta tb) := pc_int ha hb fun _ _ _ _ _ _ h => gt_int h
theorem pc_ge (ha : PE X a ta) (hb : PE X b tb) : PC X .GtE a b (tGe ta tb) := pc_int ha hb fun _ _ _ _ _ _ h => ge_int h
theorem pc_eqI (ha : PE X a ta) (hb : PE X b tb) : PC X .Eq a b (tEqI ta tb) := pc_int ha hb fun _ _ _ _ _ _ h => eq_int (by rw [Bool.beq_eq_decide_eq]; exact h)
theorem pc_neI (ha : PE X a ta) (hb : PE X b tb) : PC X .NotEq a b (tNeI ta tb) := pc_int ha hb fun _ _ _ _ _ _ h => ne_int (by rw [bne, Bool.beq_eq_decide_eq]; exact h)
/-- is None -/
def tIsN (ta : TE) : TE := fun σ H Q => ta σ H fun x H1 => Q (.bl (decide (x = .non))) H1
def tNotN (ta : TE) : TE := fun σ H Q => ta σ H fun x H1 => Q (.bl (!decide (x = .non))) H1
theorem RelV.none_iff {x : V} {v : Value} (r : RelV x v) : (v == Value.none) = decide (x = .non) := by
  cases x with
  | non => cases r; rfl
  | bl _ => cases r; rfl
  | int _ => obtain ⟨t, rfl⟩ := r; rfl
  | str _ => obtain ⟨t, rfl⟩ := r; rfl
  | byt _ => obtain ⟨t, rfl⟩ := r; rfl
  | flt _ => obtain ⟨t, rfl⟩ := r; rfl
  | ref _ => cases r; rfl
  | ty _ => cases r; rfl
theorem pc_isN {j pos'} (ha : PE X a ta) : PC X .Is a (.Constant .none j pos') (tIsN ta) := by
  intro pins s σ H Q I h
  refine thn (ha pins s σ H _ I h) fun v s1 ⟨x, H1, I1, r1, q1⟩ => ?_
  exact Constant_none (is_none_gen ⟨.bl _, H1, I1, by rw [r1.none_iff]; rfl, q1⟩)
theorem pc_notN {j pos'} (ha : PE X a ta) : PC X .IsNot a (.Constant .none j pos') (tNotN ta) := by
  intro pins s σ H Q I h
  refine thn (ha pins s σ H _ I h) fun v s1 ⟨x, H1, I1, r1, q1⟩ => ?_
  exact Constant_none (isnot_none_gen ⟨.bl _, H1, I1, by rw [r1.none_iff]; rfl, q1⟩)
/-- a comparison as a value, as a test -/
def tB (t : TE) : TT := fun σ H Q => t σ H fun x H1 => ∃ c, x = .bl c ∧ Q c H1
theorem pe_cmp {op : CmpOp} {t : TE} (h : PC X op a b t) (h1 : behindInMarks op b = false := by first | exact nobehind _ (by decide) (by decide) | rfl) : PE X (.Compare a [op] [b] pos) t := fun pins s σ H Q I hw => wpAny_Compare1 (h pins s σ H Q I hw) h1
theorem pt_cmp {op : CmpOp} {t : TE} (h : PC X op a b t) (h1 : behindInMarks op b = false := by first | exact nobehind _ (by decide) (by decide) | rfl) : PT X (.Compare a [op] [b] pos) (tB t) := by
  intro pins s σ H Q I hw
  refine wpAny_isTrue_Compare1 (thn (h pins s σ H _ I hw) fun v s1 h1 => thn h1 fun u s2 h2 => thn h2 fun c s3 ⟨x, H1, I1, r1, q1⟩ => ?_) h1
  obtain ⟨d, rfl, q⟩ := q1
  cases r1
  exact wpAny_truthy_bool ⟨H1, I1, q⟩
/-- an expression whose value is a bool, as a test -/
theorem pt_val {e : Expr} {t : TE} (h : PE X e t) (he : ∀ whole, isTrue e X.env whole = (do let v ← whole; standAt e.pos; holding [v] (truthy v)) := by intro _; rfl) : PT X e (tB t) := by
  intro pins s σ H Q I hw
  refine isTrue_plain (thn (h pins s σ H _ I hw) fun v s1 ⟨x, H1, I1, r1, q1⟩ => ?_) (he _)
  obtain ⟨d, rfl, q⟩ := q1
  cases r1
  exact wpAny_truthy_bool ⟨H1, I1, q⟩

/-! ### and, or, not -/
variable {tA tB' : TT} {rest : List Expr}
def tAnd (t u : TT) : TT := fun σ H Q => t σ H fun c H1 => if c = true then u σ H1 Q else Q false H1
def tOr (t u : TT) : TT := fun σ H Q => t σ H fun c H1 => if c = true then Q true H1 else u σ H1 Q
def tNot (t : TT) : TT := fun σ H Q => t σ H fun c H1 => Q (!c) H1
theorem pw_and1 (ha : PT X a tA) : PW X (.BoolOp .And [a] pos) tA := by
  intro wh pins s σ H Q I h
  refine isTrue_and (thn (ha pins s σ H Q I h) fun c s1 e => ?_)
  cases c with
  | true => exact isTrue_and_nil e
  | false => exact e
theorem pw_or1 (ha : PT X a tA) : PW X (.BoolOp .Or [a] pos) tA := by
  intro wh pins s σ H Q I h
  refine isTrue_or (thn (ha pins s σ H Q I h) fun c s1 e => ?_)
  cases c with
  | false => exact isTrue_or_nil e
  | true => exact e
theorem pw_and (ha : PT X a tA) (hb : PW X (.BoolOp .And (b :: rest) pos) tB') : PW X (.BoolOp .And (a :: b :: rest) pos) (tAnd tA tB') := by
  intro wh pins s σ H Q I h
  refine isTrue_and (thn (ha pins s σ H _ I h) fun c s1 ⟨H1, I1, q1⟩ => ?_)
  cases c with
  | true => exact hb wh pins s1 σ H1 Q I1 q1
  | false => exact ⟨H1, I1, q1⟩
theorem pw_or (ha : PT X a tA) (hb : PW X (.BoolOp .Or (b :: rest) pos) tB') : PW X (.BoolOp .Or (a :: b :: rest) pos) (tOr tA tB') := by
  intro wh pins s σ H Q I h
  refine isTrue_or (thn (ha pins s σ H _ I h) fun c s1 ⟨H1, I1, q1⟩ => ?_)
  cases c with
  | true => exact ⟨H1, I1, q1⟩
  | false => exact hb wh pins s1 σ H1 Q I1 q1
theorem pt_not (ha : PT X a tA) : PT X (.UnaryOp .Not a pos) (tNot tA) := by
  intro pins s σ H Q I h
  exact isTrue_not (ha pins s σ H (fun c H1 => Q (!c) H1) I h)
/-- .. as values (bools) -/
def tAndV (ta tb : TE) : TE := fun σ H Q => ta σ H fun x H1 => ∃ c, x = .bl c ∧ if c = true then tb σ H1 Q else Q (.bl false) H1
def tOrV (ta tb : TE) : TE := fun σ H Q => ta σ H fun x H1 => ∃ c, x = .bl c ∧ if c = true then Q (.bl true) H1 else tb σ H1 Q
def tNotV (ta : TE) : TE := fun σ H Q => ta σ H fun x H1 => ∃ c, x = .bl c ∧ Q (.bl (!c)) H1
theorem pe_one {op} {t : TE} (h : PE X a t) : PE X (.BoolOp op [a] pos) t := fun pins s σ H Q I hw => BoolOp_one (h pins s σ H Q I hw)
theorem pe_and (ha : PE X a ta) (hb : PE X (.BoolOp .And (b :: rest) pos) tb) : PE X (.BoolOp .And (a :: b :: rest) pos) (tAndV ta tb) := by
  intro pins s σ H Q I h
  refine BoolOp_and (thn (ha pins s σ H _ I h) fun v s1 ⟨x, H1, I1, r1, q1⟩ => ?_)
  obtain ⟨c, rfl, q1⟩ := q1
  cases r1
  refine wpAny_truthy_bool ?_
  cases c with
  | true => exact hb pins s1 σ H1 Q I1 q1
  | false => exact ⟨.bl false, H1, I1, rfl, q1⟩
theorem pe_or (ha : PE X a ta) (hb : PE X (.BoolOp .Or (b :: rest) pos) tb) : PE X (.BoolOp .Or (a :: b :: rest) pos) (tOrV ta tb) := by
  intro pins s σ H Q I h
  refine BoolOp_or (thn (ha pins s σ H _ I h) fun v s1 ⟨x, H1, I1, r1, q1⟩ => ?_)
  obtain ⟨c, rfl, q1⟩ := q1
  cases r1
  refine wpAny_truthy_bool ?_
  cases c with
  | false => exact hb pins s1 σ H1 Q I1 q1
  | true => exact ⟨.bl true, H1, I1, rfl, q1⟩
theorem pe_not (ha : PE X a ta) : PE X (.UnaryOp .Not a pos) (tNotV ta) := by
  intro pins s σ H Q I h
  refine UnaryOp_ (thn (ha pins s σ H _ I h) fun v s1 ⟨x, H1, I1, r1, q1⟩ => ?_)
  obtain ⟨c, rfl, q1⟩ := q1
  cases r1
  exact not_of (wpAny_truthy_bool ⟨.bl (!c), H1, I1, rfl, q1⟩)
/-- a if t else b -/
def tIf (t : TT) (ta tb : TE) : TE := fun σ H Q => t σ H fun c H1 => if c = true then ta σ H1 Q else tb σ H1 Q
theorem pe_ifExp {c : Expr} (hc : PT X c tA) (ha : PE X a ta) (hb : PE X b tb) : PE X (.IfExp c a b pos) (tIf tA ta tb) := by
  intro pins s σ H Q I h
  refine wpAny_IfExp (thn (hc pins s σ H _ I h) fun d s1 ⟨H1, I1, q1⟩ => ?_)
  cases d with
  | true => exact ha pins s1 σ H1 Q I1 q1
  | false => exact hb pins s1 σ H1 Q I1 q1
end
end L2

namespace L2
open PySem PySem.Spec PyProof.Rows

/-! ### a list, a tuple that is read: tracked, frozen, or an object of the module -/
def SqL (K : PySem.W.Frag) (H : Hp) (a : Addr) (xs : List V) : Prop :=
  Rd H a (.lst xs) ∨
    ∃ (o : Obj) (its : Array Value) (n : Nat), K.lookup a = some o ∧ o.cls = .type "list" ∧ o.dict = none ∧ o.data = .seq its n ∧ its.size ≤ sizeLine ∧ Vals xs its.toList
def SqT (K : PySem.W.Frag) (H : Hp) (a : Addr) (xs : List V) : Prop :=
  Rd H a (.tup xs) ∨
    ∃ (o : Obj) (its : Array Value) (n : Nat), K.lookup a = some o ∧ o.cls = .type "tuple" ∧ o.data = .seq its n ∧ its.size ≤ sizeLine ∧ Vals xs its.toList
def absV : Value → Option V
  | .none => some .non
  | .bool b => some (.bl b)
  | .int i _ => some (.int i)
  | .str x _ => some (.str x)
  | .bytes b _ => some (.byt b)
  | .float b _ => some (.flt b)
  | .ref a => some (.ref a)
  | .type n => some (.ty n)
  | _ => none
theorem RelV.abs {x : V} {u : Value} (r : RelV x u) : absV u = some x := by
  cases x with
  | non => cases r; rfl
  | bl _ => cases r; rfl
  | int _ => obtain ⟨t, rfl⟩ := r; rfl
  | str _ => obtain ⟨t, rfl⟩ := r; rfl
  | byt _ => obtain ⟨t, rfl⟩ := r; rfl
  | flt _ => obtain ⟨t, rfl⟩ := r; rfl
  | ref _ => cases r; rfl
  | ty _ => cases r; rfl
theorem RelV.inj {x y : V} {u : Value} (r : RelV x u) (q : RelV y u) : x = y := Option.some.inj (r.abs.symm.trans q.abs)
theorem Vals.inj : ∀ {xs ys : List V} {us : List Value}, Vals xs us → Vals ys us → xs = ys
  | _, _, _, .nil, .nil => rfl
  | _, _, _, .cons r t, .cons r' t' => by rw [r.inj r', Vals.inj t t']
section
variable {X : Cx} {pins : List (Addr × Obj)} {σ : St} {H : Hp} {s : Shared} {a : Addr} {xs ys : List V}
theorem SqL.of {K : PySem.W.Frag} (h : H a = some (.lst xs)) : SqL K H a xs := .inl (.inl h)
theorem SqT.of {K : PySem.W.Frag} (h : H a = some (.tup xs)) : SqT K H a xs := .inl (.inl h)
theorem Inv.list (I : Inv X pins σ H s) (h : SqL X.K H a xs) : ∃ its : List Value, Vals xs its ∧ PlainL s.heap a its.toArray ∧ xs.length ≤ sizeLine := by
  rcases h with h | ⟨o, its, n, hk, hc, hd, hs, hz, r⟩
  · obtain ⟨z, its, n, r, e⟩ := h.ok I.hok
    exact ⟨its, r, ⟨_, n, e, rfl, rfl, rfl⟩, z⟩
  · refine ⟨its.toList, r, ⟨o, n, I.kIn a o hk, hc, hd, by simpa using hs⟩, ?_⟩
    have e := r.length
    simp only [Array.length_toList] at e
    omega
theorem Inv.tuple (I : Inv X pins σ H s) (h : SqT X.K H a xs) : ∃ its : List Value, Vals xs its ∧ IsTup s.heap a its.toArray ∧ xs.length ≤ sizeLine := by
  rcases h with h | ⟨o, its, n, hk, hc, hs, hz, r⟩
  · obtain ⟨z, its, r, p⟩ := h.ok I.hok
    exact ⟨its, r, p, z⟩
  · refine ⟨its.toList, r, ⟨o, I.kIn a o hk, hc, n, by simpa using hs⟩, ?_⟩
    have e := r.length
    simp only [Array.length_toList] at e
    omega
theorem Inv.list_inj (I : Inv X pins σ H s) (h : SqL X.K H a xs) (h' : SqL X.K H a ys) : xs = ys := by
  obtain ⟨its, r, ⟨o, n, e, _, _, d⟩, _⟩ := I.list h
  obtain ⟨its', r', ⟨o', n', e', _, _, d'⟩, _⟩ := I.list h'
  rw [e] at e'; cases e'
  rw [d] at d'
  injection d' with d1 _
  have : its = its' := by simpa using congrArg Array.toList d1
  subst this
  exact r.inj r'
theorem Inv.tuple_inj (I : Inv X pins σ H s) (h : SqT X.K H a xs) (h' : SqT X.K H a ys) : xs = ys := by
  obtain ⟨its, r, ⟨o, e, _, n, d⟩, _⟩ := I.tuple h
  obtain ⟨its', r', ⟨o', e', _, n', d'⟩, _⟩ := I.tuple h'
  rw [e] at e'; cases e'
  rw [d] at d'
  injection d' with d1 _
  have : its = its' := by simpa using congrArg Array.toList d1
  subst this
  exact r.inj r'
end

/-! ### another wish about exceptions -/
abbrev Cx.wish (X : Cx) (E : Value → Shared → Prop) : Cx := { X with xe := E }
/-- no exception leaves -/
abbrev Cx.nox (X : Cx) : Cx := X.wish fun _ _ => False
theorem Cx.Ok.wish {X : Cx} (ok : X.Ok) (E : Value → Shared → Prop) : (X.wish E).Ok :=
  ⟨ok.mod, ok.kind, ok.glob, ok.blt, ok.above, ok.inj, ok.has, ok.cab, ok.hd, ok.frames, ok.stk, ok.exf, ok.bs, ok.bsz, ok.noex, ok.exfs, ok.funs, ok.frf⟩
theorem Cx.Ok.unwish {X : Cx} {E : Value → Shared → Prop} (ok : (X.wish E).Ok) : X.Ok :=
  ⟨ok.mod, ok.kind, ok.glob, ok.blt, ok.above, ok.inj, ok.has, ok.cab, ok.hd, ok.frames, ok.stk, ok.exf, ok.bs, ok.bsz, ok.noex, ok.exfs, ok.funs, ok.frf⟩
section
variable {X : Cx} {pins : List (Addr × Obj)} {σ : St} {H : Hp} {s : Shared} {E : Value → Shared → Prop}
theorem Inv.wish (I : Inv X pins σ H s) (E : Value → Shared → Prop) : Inv (X.wish E) pins σ H s := ⟨I.ok.wish E, I.os, I.bare, I.base, I.loc, I.cell, I.free, I.freeC, I.pin, I.hok, I.len⟩
theorem Inv.unwish (I : Inv (X.wish E) pins σ H s) : Inv X pins σ H s := ⟨I.ok.unwish, I.os, I.bare, I.base, I.loc, I.cell, I.free, I.freeC, I.pin, I.hok, I.len⟩
theorem SP.unwish {D : Ends} {f : Flow} {s' : Shared} (h : SP (X.wish E) pins D f s') : SP X pins D f s' := by
  cases f with
  | next => obtain ⟨σ', H', I, q⟩ := h; exact ⟨σ', H', I.unwish, q⟩
  | brk => obtain ⟨σ', H', I, q⟩ := h; exact ⟨σ', H', I.unwish, q⟩
  | cont => obtain ⟨σ', H', I, q⟩ := h; exact ⟨σ', H', I.unwish, q⟩
  | ret u => obtain ⟨v, σ', H', I, r, q⟩ := h; exact ⟨v, σ', H', I.unwish, r, q⟩
theorem PE.nox {e : Expr} {t : TE} (h : PE X.nox e t) : PE X e t := fun pins s σ H Q I hw =>
  wpAny_mono (h pins s σ H Q (I.wish _) hw) (fun _ _ ⟨v, H', I', r, q⟩ => ⟨v, H', I'.unwish, r, q⟩) fun _ _ z => False.elim z
theorem PT.nox {e : Expr} {t : TT} (h : PT X.nox e t) : PT X e t := fun pins s σ H Q I hw =>
  wpAny_mono (h pins s σ H Q (I.wish _) hw) (fun _ _ ⟨H', I', q⟩ => ⟨H', I'.unwish, q⟩) fun _ _ z => False.elim z
theorem PSs.nox {st : List Stmt} {t : TS} (h : PSs X.nox st t) : PSs X st t := fun pins s σ H D I hw =>
  wpAny_mono (h pins s σ H D (I.wish _) hw) (fun _ _ q => q.unwish) fun _ _ z => False.elim z
end

/-! ### blocks and small statements -/
section
variable {X : Cx} {st : Stmt} {rest : List Stmt} {t u : TS} {e : Expr} {te : TE} {pos : Pos}
def tNext : TS := fun D σ H => D.nx σ H
def tSeq (t u : TS) : TS := fun D σ H => t { D with nx := u D } σ H
theorem pss_nil : PSs X [] tNext := fun _ _ σ H _ I h => wpAny_execs_nil ⟨σ, H, I, h⟩
theorem pss_cons (h1 : PS X st t) (h2 : PSs X rest u) : PSs X (st :: rest) (tSeq t u) := by
  intro pins s σ H D I h
  refine wpAny_execs_cons (thn (h1 pins s σ H { D with nx := u D } I h) fun f s1 q => ?_)
  cases f with
  | next =>
    obtain ⟨σ', H', I', q⟩ := q
    exact h2 pins s1 σ' H' D I' q
  | ret v => exact q
  | brk => exact q
  | cont => exact q
theorem pss_one (h1 : PS X st t) : PSs X [st] t := by
  intro pins s σ H D I h
  refine wpAny_execs_cons (thn (h1 pins s σ H D I h) fun f s1 q => ?_)
  cases f with
  | next => exact wpAny_execs_nil q
  | ret v => exact q
  | brk => exact q
  | cont => exact q
def tBreak : TS := fun D σ H => D.bk σ H
def tCont : TS := fun D σ H => D.ct σ H
theorem ps_pass : PS X (.Pass pos) tNext := fun _ _ σ H _ I h => wpAny_Pass ⟨σ, H, I, h⟩
theorem ps_break : PS X (.Break pos) tBreak := fun _ _ σ H _ I h => wpAny_Break ⟨σ, H, I, h⟩
theorem ps_continue : PS X (.Continue pos) tCont := fun _ _ σ H _ I h => wpAny_Continue ⟨σ, H, I, h⟩
/-- in a def's body nothing is shown -/
theorem Inv.quiet {pins : List (Addr × Obj)} {σ : St} {H : Hp} {s : Shared} (I : Inv X pins σ H s) : interactive X.env = false := by simp [interactive, I.ok.kind]
/-- a docstring -/
theorem ps_doc {x j pos pos'} : PS X (.Expr (.Constant (.str x) j pos) pos') tNext := fun _ s σ H _ I h => wpAny_Expr (Calls.Constant_str (show SP X _ _ .next { s with toks := s.toks + 1 } from ⟨σ, H, I.tok _, h⟩)) I.quiet
/-- an expression whose value is dropped -/
def tDrop (te : TE) : TS := fun D σ H => te σ H fun _ H1 => D.nx σ H1
theorem ps_expr (he : PE X e te) (hs : swapsWith e none pos.line X.env = pure false := by rfl) : PS X (.Expr e pos) (tDrop te) := by
  intro pins s σ H D I h
  exact wpAny_Expr_any (thn (he pins s σ H _ I h) fun v s1 ⟨x, H1, I1, r1, q1⟩ => ⟨σ, H1, I1, q1⟩) I.quiet hs
def tRet (te : TE) : TS := fun D σ H => te σ H D.rt
theorem ps_ret (he : PE X e te) : PS X (.Return (some e) pos) (tRet te) := by
  intro pins s σ H D I h
  exact wpAny_Return_some (thn (he pins s σ H _ I h) fun v s1 ⟨x, H1, I1, r1, q1⟩ => ⟨x, σ, H1, I1, r1, q1⟩)
def tRetN : TS := fun D _ H => D.rt .non H
theorem ps_retN : PS X (.Return none pos) tRetN := fun _ _ σ H _ I h => wpAny_Return_none ⟨.non, σ, H, I, rfl, h⟩
def tIfS (c : TT) (t u : TS) : TS := fun D σ H => c σ H fun b H1 => if b = true then t D σ H1 else u D σ H1
theorem ps_if {c : Expr} {a b : List Stmt} {tc : TT} (hc : PT X c tc) (ha : PSs X a t) (hb : PSs X b u) : PS X (.If c a b pos) (tIfS tc t u) := by
  intro pins s σ H D I h
  refine wpAny_If (thn (hc pins s σ H _ I h) fun d s1 ⟨H1, I1, q1⟩ => ?_)
  cases d with
  | true => exact ha pins s1 σ H1 D I1 q1
  | false => exact hb pins s1 σ H1 D I1 q1
/-- code that the proof never comes to -/
def tNever : TS := fun _ _ _ => False
theorem ps_never : PS X st tNever := fun _ _ _ _ _ _ h => h.elim
theorem pss_never {sts : List Stmt} : PSs X sts tNever := fun _ _ _ _ _ _ h => h.elim
end

/-! ### targets -/
abbrev TG := V → St → Hp → (St → Hp → Prop) → Prop
abbrev TGs := List V → St → Hp → (St → Hp → Prop) → Prop
def PG (X : Cx) (target : Expr) (t : TG) : Prop :=
  ∀ (pins : List (Addr × Obj)) (s : Shared) (σ : St) (H : Hp) (v : V) (u : Value) (Q : St → Hp → Prop), Inv X pins σ H s → RelV v u → t v σ H Q →
    wpAny (model X.prog X.w) X.A (assign target X.env u) (fun _ s' => ∃ σ' H', Inv X pins σ' H' s' ∧ Q σ' H') X.xe s
/-- several targets, one after another -/
def PGs (X : Cx) (ts : List Expr) (t : TGs) : Prop :=
  ∀ (pins : List (Addr × Obj)) (s : Shared) (σ : St) (H : Hp) (vs : List V) (us : List Value) (Q : St → Hp → Prop), Inv X pins σ H s → Vals vs us → t vs σ H Q →
    wpAny (model X.prog X.w) X.A (assignInOrder ((assignEach ts X.env).map (·.2)) us) (fun _ s' => ∃ σ' H', Inv X pins σ' H' s' ∧ Q σ' H') X.xe s
/-- o[i] = v, by values -/
abbrev TSet := V → V → V → Hp → (Hp → Prop) → Prop
def PSet (X : Cx) (t : TSet) : Prop :=
  ∀ (pins : List (Addr × Obj)) (s : Shared) (σ : St) (H : Hp) (o i v : V) (ov iv u : Value) (Q : Hp → Prop), Inv X pins σ H s → RelV o ov → RelV i iv → RelV v u → t o i v H Q →
    wpAny (model X.prog X.w) X.A (setItem ov iv u) (fun _ s' => ∃ H', Inv X pins σ H' s' ∧ Q H') X.xe s
/-- a op= b, by values -/
abbrev TIp := V → V → Hp → VK → Prop
def PIp (X : Cx) (op : Operator) (t : TIp) : Prop :=
  ∀ (pins : List (Addr × Obj)) (s : Shared) (σ : St) (H : Hp) (x y : V) (v u : Value) (Q : VK), Inv X pins σ H s → RelV x v → RelV y u → t x y H Q →
    wpAny (model X.prog X.w) X.A (inplaceOp op v u) (EP X pins σ Q) X.xe s
section
variable {X : Cx} {pos : Pos}
def gName (i : Nat) : TG := fun v σ H Q => Q (σ.set i (some v)) H
theorem pg_name {i : Nat} {x : Str} (hN : X.N.Nodup) (hi : X.N[i]? = some x) (hx : Loc X.env.scope x) (hf : X.fn x = true ∨ X.env.scope.names.lookup x = some .local := by first | exact .inl rfl | exact .inr rfl | assumption) : PG X (.Name x pos) (gName i) := by
  intro pins s σ H v u Q I r h
  exact wpAny_assign_Name (store_ok I hN hi hx r (fun s' I' => ⟨_, H, I', h⟩) hf)
def gNil : TGs := fun vs σ H Q => vs = [] ∧ Q σ H
def gCons (t : TG) (u : TGs) : TGs := fun vs σ H Q => ∃ v r, vs = v :: r ∧ t v σ H fun σ' H' => u r σ' H' Q
theorem pgs_nil : PGs X [] gNil := by
  intro pins s σ H vs us Q I r h
  obtain ⟨e, h⟩ := h
  subst e
  cases r
  exact assignInOrder_nil ⟨σ, H, I, h⟩
theorem pgs_cons {e : Expr} {es : List Expr} {t : TG} {u : TGs} (h1 : PG X e t) (h2 : PGs X es u)
    (hs : (assignEach (e :: es) X.env).map (·.2) = assign e X.env :: (assignEach es X.env).map (·.2) := by rfl) : PGs X (e :: es) (gCons t u) := by
  intro pins s σ H vs us Q I r h
  obtain ⟨v, vr, e1, h⟩ := h
  subst e1
  cases r with
  | cons r rr =>
    rw [hs]
    refine assignInOrder_cons (thn (h1 pins s σ H _ _ _ I r h) fun _ s1 ⟨σ1, H1, I1, q1⟩ => ?_)
    exact h2 pins s1 σ1 H1 _ _ Q I1 rr q1
/-- (a, b, ..) = a tuple of that length -/
def gTup (K : PySem.W.Frag) (n : Nat) (t : TGs) : TG := fun v σ H Q => ∃ a xs, v = .ref a ∧ SqT K H a xs ∧ xs.length = n ∧ t xs σ H Q
theorem pg_tup {es : List Expr} {k : Nat} {t : TGs} {n : Nat} (hc : X.calm = true) (h : PGs X es t)
    (hn : (assignEach es X.env).length = n := by rfl) (hst : (assignEach es X.env).findIdx? (·.1) = none := by rfl) : PG X (.Tuple es k pos) (gTup X.K n t) := by
  intro pins s σ H v u Q I r hw
  obtain ⟨a, xs, e1, hq, hl, hw⟩ := hw
  subst e1
  cases r
  obtain ⟨its, rv, ht, hz⟩ := I.tuple hq
  refine assign_Tuple_tuple (I.ok.hd hc) ht (by simp [hn, ← hl, rv.length]) hst fun h' hx => ?_
  have I1 : Inv X pins σ H { s with heap := h' } := I.kept (t' := s.toks) fun b o e => hx b o (Nat.ne_of_lt (Heap.lt_size e)) e
  exact h pins _ σ H xs _ Q I1 (by simpa using rv) hw
/-- o[i] = .. -/
def gSub (to ti : TE) (t : TSet) : TG := fun v σ H Q => to σ H fun o H1 => ti σ H1 fun i H2 => t o i v H2 fun H3 => Q σ H3
theorem pg_sub {o i : Expr} {to ti : TE} {t : TSet} (ho : PE X o to) (hi : PE X i ti) (hs : PSet X t)
    (ha : ∀ v, assign (.Subscript o i pos) X.env v = (do
      let ov ← holding [v] (eval o X.env)
      let iv ← holding [v, ov] (eval i X.env)
      standAt pos
      holding [v, ov, iv] (setItem ov iv v)
      release [v, ov, iv] []) := by intro _; rfl) : PG X (.Subscript o i pos) (gSub to ti t) := by
  intro pins s σ H v u Q I r h
  rw [ha]
  refine wpAny_bind (wpAny_holding (thn (ho pins s σ H _ I h) fun ov s1 ⟨x, H1, I1, r1, q1⟩ => ?_))
  refine wpAny_bind (wpAny_holding (thn (hi pins s1 σ H1 _ I1 q1) fun iv s2 ⟨y, H2, I2, r2, q2⟩ => ?_))
  refine wpAny_bind (wpAny_standAt (wpAny_bind (wpAny_holding (thn (hs pins s2 σ H2 x y v ov iv u _ I2 r1 r2 r q2) fun _ s3 ⟨H3, I3, q3⟩ => ?_))))
  exact wpAny_release ⟨σ, H3, I3, q3⟩
/-- target = value -/
def tAsg (te : TE) (g : TG) : TS := fun D σ H => te σ H fun x H1 => g x σ H1 D.nx
theorem ps_asg {tg e : Expr} {te : TE} {g : TG} (he : PE X e te) (hg : PG X tg g) (hs : swapsWithSole [tg] e pos.line X.env = pure false := by rfl) (hw : swappedStores [tg] e X.env = pure none := by rfl)
    (h1 : (assignEach [tg] X.env).map (·.2) = [assign tg X.env] := by rfl) : PS X (.Assign [tg] e pos) (tAsg te g) := by
  intro pins s σ H D I h
  refine wpAny_Assign_stores (thn (he pins s σ H _ I h) fun v s1 ⟨x, H1, I1, r1, q1⟩ => ?_) hs hw
  rw [h1]
  exact thn (hg pins s1 σ H1 x v _ I1 r1 q1) fun _ s2 q => q
/-- name = value -/
theorem ps_set {i : Nat} {x : Str} {e : Expr} {te : TE} {pos' : Pos} (hN : X.N.Nodup) (hi : X.N[i]? = some x) (hx : Loc X.env.scope x) (he : PE X e te) (hs : swapsWith e (some (.Name x pos')) pos.line X.env = pure false := by rfl) (hf : X.fn x = true ∨ X.env.scope.names.lookup x = some .local := by first | exact .inl rfl | exact .inr rfl | assumption) :
    PS X (.Assign [.Name x pos'] e pos) (tAsg te (gName i)) := by
  intro pins s σ H D I h
  refine wpAny_Assign_Name (thn (he pins s σ H _ I h) fun v s1 ⟨y, H1, I1, r1, q1⟩ => ?_) hs
  exact store_ok I1 hN hi hx r1 (fun s2 I2 => ⟨_, H1, I2, q1⟩) hf
/-- a, b = x, y with plain local names: stored from the right; the pair itself is not tracked (the opening rows as in PyProof/Rows/TupAssign.lean:23) -/
def tPar (i j : Nat) (ta : TA) : TS := fun D σ H => ta σ H fun vs H1 => ∃ v w, vs = [v, w] ∧ D.nx ((σ.set i (some v)).set j (some w)) H1
theorem ps_par {i j : Nat} {x y : Str} {a b : Expr} {ta : TA} {px py pt : Pos} {kt k2 pt2} (hc : X.calm = true) (hN : X.N.Nodup) (hi : X.N[i]? = some x) (hj : X.N[j]? = some y) (hij : i ≠ j)
    (hx : X.env.scope.names.lookup x = some .local) (hy : X.env.scope.names.lookup y = some .local) (ha : PA X [a, b] ta)
    (hw : swappedStores [.Tuple [.Name x px, .Name y py] kt pt] (.Tuple [a, b] k2 pt2) X.env = pure (some [x, y]))
    (hs : swapsWithSole [.Tuple [.Name x px, .Name y py] kt pt] (.Tuple [a, b] k2 pt2) pos.line X.env = pure false := by rfl) :
    PS X (.Assign [.Tuple [.Name x px, .Name y py] kt pt] (.Tuple [a, b] k2 pt2) pos) (tPar i j ta) := by
  intro pins s σ H D I h
  rw [exec_Assign_arm]
  refine wpAny_bind (wpAny_standAt ?_)
  rw [hs]
  refine wpAny_bind (wpAny_pure ?_)
  rw [if_neg (by decide)]
  refine wpAny_bind (Tuple_ (thn (ha _ pins s σ H _ I h) fun us s1 ⟨vs, H1, I1, r1, q1⟩ => ?_))
  obtain ⟨v, w, e1, q1⟩ := q1
  subst e1
  obtain ⟨u1, u2, rfl, rv, rw'⟩ : ∃ u1 u2, us = [u1, u2] ∧ RelV v u1 ∧ RelV w u2 := by
    cases r1 with
    | cons p q =>
      cases q with
      | cons p' q' =>
        cases q'
        exact ⟨_, _, rfl, p, p'⟩
  refine wpAny_newObj_type ?_ (by show 2 ≤ sizeLine; decide)
  have I2 : Inv X pins σ H1 { s1 with heap := s1.heap.push { cls := .type "tuple", data := .seq [u1, u2].toArray } } := I1.kept (t' := s1.toks) fun b o e => Heap.get?_push_of_some _ e
  rw [hw]
  refine wpAny_bind (wpAny_pure ?_)
  show wpAny (model X.prog X.w) X.A (do rule "assign.swapped-stores"; let items ← unpackItems (.ref s1.heap.objs.size) 2 none; assignInOrder [fun v => bindName X.env y v, fun v => bindName X.env x v] items.reverse; pure Flow.next) _ _ _
  refine wpAny_bind (wpAny_rule (wpAny_bind (unpackItems_tuple (items := #[u1, u2]) (I.ok.hd hc) (IsTup.new s1.heap _) fun h' hx' => ?_)))
  have I3 := I2.kept (h' := h') (t' := s1.toks) fun b o e => hx' b o (Nat.ne_of_lt (Heap.lt_size e)) e
  show wpAny _ _ (assignInOrder [fun v => bindName X.env y v, fun v => bindName X.env x v] [u2, u1] >>= fun _ => pure Flow.next) _ _ _
  refine wpAny_bind (assignInOrder_cons (wpAny_bindName (store_ok I3 hN hj (.inl hy) rw' (fun s2 I4 => ?_) (.inr hy))))
  refine assignInOrder_cons (wpAny_bindName (store_ok I4 hN hi (.inl hx) rv (fun s3 I5 => assignInOrder_nil (wpAny_pure ?_)) (.inr hx)))
  rw [List.set_comm _ _ (Ne.symm hij)] at I5
  exact ⟨_, H1, I5, q1⟩
/-- name op= e -/
def tAug (i : Nat) (te : TE) (ti : TIp) : TS := fun D σ H => ∃ x, σ[i]? = some (some x) ∧ te σ H fun y H1 => ti x y H1 fun z H2 => D.nx (σ.set i (some z)) H2
theorem ps_aug {i : Nat} {x : Str} {e : Expr} {te : TE} {op : Operator} {ti : TIp} {pos' : Pos} (hN : X.N.Nodup) (hi : X.N[i]? = some x) (hx : Loc X.env.scope x) (he : PE X e te) (ho : PIp X op ti) (hf : X.fn x = true ∨ X.env.scope.names.lookup x = some .local := by first | exact .inl rfl | exact .inr rfl | assumption) :
    PS X (.AugAssign (.Name x pos') op e pos) (tAug i te ti) := by
  intro pins s σ H D I h
  obtain ⟨v, e1, h⟩ := h
  obtain ⟨m, hn, hl⟩ := I.loc
  have vis : Vis X.env.scope x := by rcases hx with k | k; exact .inl k; exact .inr (.inl k)
  obtain ⟨u, r, l⟩ := hl i x v hi e1 vis
  refine wpAny_AugAssign_Name ?_
  have go : wpAny (model X.prog X.w) X.A (eval e X.env) (fun w s₂ => wpAny (model X.prog X.w) X.A (inplaceOp op u w) (fun r s₃ => wpAny (model X.prog X.w) X.A (storeName X.env x r) (fun _ => SP X pins D .next) X.xe s₃) X.xe s₂) X.xe s := by
    refine thn (he pins s σ H _ I h) fun w s1 ⟨y, H1, I1, r1, q1⟩ => ?_
    refine thn (ho pins s1 σ H1 v y u w _ I1 r r1 q1) fun z s2 ⟨zv, H2, I2, r2, q2⟩ => ?_
    exact store_ok I2 hN hi hx r2 (fun s3 I3 => ⟨_, H2, I3, q2⟩) hf
  rcases l with ⟨hk, hm⟩ | ⟨hk, c, hc, hcell⟩
  · exact wpAny_loadName_local I.ok.kind hk hn hm go
  · rcases hk with hk | hk
    · exact wpAny_loadName_cell I.ok.kind hk hc hcell go
    · rcases hx with k | k
      · have : X.env.scope.names.lookup x = some .free := hk
        rw [k] at this; cases this
      · have : X.env.scope.names.lookup x = some .free := hk
        rw [k] at this; cases this
/-- o[i] op= e -/
def tAugS (to ti te : TE) (tget : V → V → Hp → VK → Prop) (tip : TIp) (tset : TSet) : TS := fun D σ H => to σ H fun o H1 => ti σ H1 fun i H2 => tget o i H2 fun x H3 => te σ H3 fun y H4 => tip x y H4 fun z H5 => tset o i z H5 fun H6 => D.nx σ H6
/-- o[i], by values -/
def PGet (X : Cx) (t : V → V → Hp → VK → Prop) : Prop :=
  ∀ (pins : List (Addr × Obj)) (s : Shared) (σ : St) (H : Hp) (o i : V) (ov iv : Value) (Q : VK), Inv X pins σ H s → RelV o ov → RelV i iv → t o i H Q →
    wpAny (model X.prog X.w) X.A (getItem ov iv) (EP X pins σ Q) X.xe s
theorem ps_augS {o i e : Expr} {to ti te : TE} {tget : V → V → Hp → VK → Prop} {tip : TIp} {tset : TSet} {op : Operator} {tpos : Pos} (ho : PE X o to) (hi : PE X i ti) (hg : PGet X tget) (he : PE X e te) (hp : PIp X op tip) (hs : PSet X tset)
    (ha : ∀ ov iv new, augStore i ov iv new = (do holding [new, ov, iv] (setItem ov iv new); release [new, ov, iv] []; pure .next) := by intros; rfl) : PS X (.AugAssign (.Subscript o i tpos) op e pos) (tAugS to ti te tget tip tset) := by
  intro pins s σ H D I h
  refine wpAny_AugAssign_SubscriptAny (thn (ho pins s σ H _ I h) fun ov s1 ⟨x1, H1, I1, r1, q1⟩ => ?_) ha
  refine thn (hi pins s1 σ H1 _ I1 q1) fun iv s2 ⟨x2, H2, I2, r2, q2⟩ => ?_
  refine thn (hg pins s2 σ H2 x1 x2 ov iv _ I2 r1 r2 q2) fun old s3 ⟨x3, H3, I3, r3, q3⟩ => ?_
  refine thn (he pins s3 σ H3 _ I3 q3) fun v s4 ⟨x4, H4, I4, r4, q4⟩ => ?_
  refine thn (hp pins s4 σ H4 x3 x4 old v _ I4 r3 r4 q4) fun new s5 ⟨x5, H5, I5, r5, q5⟩ => ?_
  exact thn (hs pins s5 σ H5 x1 x2 x5 ov iv new _ I5 r1 r2 r5 q5) fun _ s6 ⟨H6, I6, q6⟩ => ⟨σ, H6, I6, q6⟩
/-- ints -/
def ipI (f : Int → Int → Int) : TIp := fun x y H Q => ∃ i j, x = .int i ∧ y = .int j ∧ Q (.int (f i j)) H
theorem ip_add : PIp X .Add (ipI fun i j => i + j) := by
  intro pins s σ H x y v u Q I r1 r2 h
  obtain ⟨i, j, e1, e2, q⟩ := h
  subst e1; subst e2
  obtain ⟨t, rfl⟩ := r1
  obtain ⟨t', rfl⟩ := r2
  exact iadd_int ⟨.int _, H, I.tok _, ⟨_, rfl⟩, q⟩
theorem ip_sub : PIp X .Sub (ipI fun i j => i - j) := by
  intro pins s σ H x y v u Q I r1 r2 h
  obtain ⟨i, j, e1, e2, q⟩ := h
  subst e1; subst e2
  obtain ⟨t, rfl⟩ := r1
  obtain ⟨t', rfl⟩ := r2
  exact isub_int ⟨.int _, H, I.tok _, ⟨_, rfl⟩, q⟩
end

/-! ### while -/
section
variable {X : Cx} {pos : Pos}
/-- the invariant W with its measure -/
def tWhile (c : TT) (tb : TS) : TS := fun D σ H => ∃ W : Nat → St → Hp → Prop, (∃ m, W m σ H) ∧ ∀ m σ H, W m σ H →
  c σ H fun b H1 => if b = true then ∃ N : St → Hp → Prop, (∀ σ' H', N σ' H' → ∃ m', m' < m ∧ W m' σ' H') ∧ tb { D with nx := N, ct := N, bk := D.nx } σ H1 else D.nx σ H1
theorem ps_while {c : Expr} {body : List Stmt} {tc : TT} {tb : TS} (hp : PassesOwn (model X.prog X.w) X.A X.env X.xe) (hc : PT X c tc) (hb : PSs X body tb) : PS X (.While c body [] pos) (tWhile tc tb) := by
  intro pins s σ H D I h
  obtain ⟨W, ⟨m0, w0⟩, turn⟩ := h
  refine wpAny_While (codeAny_whileLoop (fun n s' => ∃ σ' H', Inv X pins σ' H' s' ∧ W n σ' H') ?_ m0 ⟨σ, H, I, w0⟩)
  rintro n s1 ⟨σ1, H1, I1, w1⟩
  refine wpAny_passesOwn hp (thn (hc pins s1 σ1 H1 _ I1 (turn n σ1 H1 w1)) fun b s2 ⟨H2, I2, q2⟩ => ?_)
  cases b with
  | true =>
    obtain ⟨N, hN, q2⟩ := q2
    rw [if_pos rfl]
    refine wpAny_passesOwn hp (thn (hb pins s2 σ1 H2 _ I2 q2) fun f s3 q3 => ?_)
    cases f with
    | next =>
      obtain ⟨σ3, H3, I3, n3⟩ := q3
      obtain ⟨m', hm, w3⟩ := hN σ3 H3 n3
      exact ⟨m', hm, σ3, H3, I3, w3⟩
    | cont =>
      obtain ⟨σ3, H3, I3, n3⟩ := q3
      obtain ⟨m', hm, w3⟩ := hN σ3 H3 n3
      exact ⟨m', hm, σ3, H3, I3, w3⟩
    | brk => exact q3
    | ret v => exact q3
  | false =>
    rw [if_neg Bool.false_ne_true]
    exact wpAny_execs_nil ⟨σ1, H2, I2, q2⟩
end

/-! ### what a loop or a comprehension walks -/
/-- at turn i: it yields x (the heap may grow), or it stops -/
structure It where
  go : Nat → Hp → Prop
  yld : Nat → Hp → V → Hp → Prop
  stop : Nat → Hp → Prop
/-- the iterator's own objects may turn: they are not the frame's, not pinned, younger than the entry (or a comprehension's own) -/
def FpOk (X : Cx) (pins : List (Addr × Obj)) (H : Hp) (b : Addr) : Prop :=
  H b = none ∧ b ≠ X.env.locals ∧ b ∉ X.fs ∧ (b ∈ X.ex ∨ X.s₀.heap.objs.size ≤ b) ∧ (∀ x c, X.env.cells.lookup x = some c → c ≠ b) ∧ ∀ p ∈ X.pn ++ pins, p.1 ≠ b
theorem Inv.fpOk {X : Cx} {pins : List (Addr × Obj)} {σ : St} {H H' : Hp} {s : Shared} {b : Addr} (I : Inv X pins σ H s) (hb : s.heap.objs.size ≤ b) (hn : H' b = none) : FpOk X pins H' b := by
  refine ⟨hn, Nat.ne_of_gt (Nat.lt_of_lt_of_le I.lt hb), I.nofs hb, .inr (Nat.le_trans I.sz hb), fun x c e z => ?_, fun p hp z => ?_⟩
  · obtain ⟨v, q⟩ := I.cell x c e
    exact absurd (Nat.lt_of_lt_of_le q.lt (by rw [z]; exact hb)) (Nat.lt_irrefl _)
  · exact absurd (Nat.lt_of_lt_of_le (Heap.lt_size (I.pin p hp).1) (by rw [z]; exact hb)) (Nat.lt_irrefl _)
structure Turn (P : Program) (w : World) (K : PySem.W.Frag) (tg : Expr) (J : It) (fp : List Addr) (it : Addr) (tn : Nat → Heap → Prop) : Prop where
  mem : it ∈ fp
  obj : ∀ i h, tn i h → ∀ b ∈ fp, ∃ o, h.get? b = some o ∧ ∀ v, o.data ≠ .cell v
  keep : ∀ i h h', tn i h → (∀ b ∈ fp, ∀ o, h.get? b = some o → h'.get? b = some o) → tn i h'
  item : ∀ (X : Cx), X.prog = P → X.w = w → X.K = K → X.calm = true → ∀ (i : Nat) (pins : List (Addr × Obj)) (s : Shared) (σ : St) (H : Hp) (E : Value → Shared → Prop), Inv X pins σ H s → (∀ b ∈ fp, FpOk X pins H b) → tn i s.heap → J.go i H →
    wpAny (model P w) X.A (pyNext (.ref it)) (fun r s1 => ∃ u, r = some u ∧
      wpAny (model P w) X.A (letOwnedTupleGo tg (.ref it) u) (fun _ s2 => ∃ x H', Inv X pins σ H' s2 ∧ RelV x u ∧ J.yld i H x H' ∧ tn (i + 1) s2.heap ∧ ∀ b ∈ fp, H' b = none) E s1) E s
  done : ∀ (X : Cx), X.prog = P → X.w = w → X.K = K → X.calm = true → ∀ (i : Nat) (pins : List (Addr × Obj)) (s : Shared) (σ : St) (H : Hp) (E : Value → Shared → Prop), Inv X pins σ H s → (∀ b ∈ fp, FpOk X pins H b) → tn i s.heap → J.stop i H →
    wpAny (model P w) X.A (pyNext (.ref it)) (fun r s1 => r = none ∧ Inv X pins σ H s1) E s
  self : ∀ (A : Around) (i : Nat) (s : Shared) (Q : Value → Shared → Prop) (E : Value → Shared → Prop), tn i s.heap → Q (.ref it) s → wpAny (model P w) A (pyIter (.ref it)) Q E s
abbrev TI := St → Hp → (It → Hp → Prop) → Prop
/-- an iterator has come -/
def PIE (X : Cx) (pins : List (Addr × Obj)) (σ : St) (tg : Expr) (R : It → Hp → Prop) (itv : Value) (s2 : Shared) : Prop :=
  ∃ (it : Addr) (fp : List Addr) (tn : Nat → Heap → Prop) (J : It) (H' : Hp), itv = .ref it ∧ Inv X pins σ H' s2 ∧ Turn X.prog X.w X.K tg J fp it tn ∧ tn 0 s2.heap ∧ (∀ b ∈ fp, FpOk X pins H' b) ∧ R J H'
def PI (X : Cx) (tg iter : Expr) (wi : TI) : Prop :=
  ∀ (pins : List (Addr × Obj)) (s : Shared) (σ : St) (H : Hp) (R : It → Hp → Prop), Inv X pins σ H s → wi σ H R →
    wpAny (model X.prog X.w) X.A (eval iter X.env) (fun v s1 => wpAny (model X.prog X.w) X.A (pyIter v) (PIE X pins σ tg R) X.xe s1) X.xe s

/-- the step ahead of the store is nothing for an iterator that keeps no tuple -/
theorem go_of {M : Model} {A : Around} {E : Value → Shared → Prop} {s : Shared} {tg : Expr} {it : Addr} {u : Value} {o : Obj} {n : String} {vs : Array Value} {Q : Unit → Shared → Prop} (ho : s.heap.get? it = some o) (hc : o.cls = .type n) (hd : o.data = .fields vs)
    (hn : ["enumerate", "zip", "dict_itemiterator", "dict_reverseitemiterator", "odict_iterator", "itertools.zip_longest", "itertools.pairwise"].contains n = false) (hQ : Q () s) : wpAny M A (letOwnedTupleGo tg (.ref it) u) Q E s := by
  unfold letOwnedTupleGo
  cases tg <;> first
    | exact wpAny_pure hQ
    | (cases u <;> first
        | exact wpAny_pure hQ
        | (refine wpAny_bind (wpAny_load ho ?_)
           rw [hc, hd]
           show wpAny M A (if (["enumerate", "zip", "dict_itemiterator", "dict_reverseitemiterator", "odict_iterator", "itertools.zip_longest", "itertools.pairwise"].contains n && vs[0]? == some (rawInt _)) = true then _ else _) Q E s
           rw [if_neg (by intro h; rw [hn, Bool.false_and] at h; cases h)]
           exact wpAny_pure hQ))

/-- the list at a, as it stands at each turn (a loop may append to it) -/
def Itl (K : PySem.W.Frag) (a : Addr) : It :=
  ⟨fun i H => ∃ xs x, SqL K H a xs ∧ xs[i]? = some x, fun i H x H' => H' = H ∧ ∀ xs, SqL K H a xs → xs[i]? = some x, fun i H => ∃ xs, SqL K H a xs ∧ xs.length ≤ i⟩
def Itt (K : PySem.W.Frag) (a : Addr) : It :=
  ⟨fun i H => ∃ xs x, SqT K H a xs ∧ xs[i]? = some x, fun i H x H' => H' = H ∧ ∀ xs, SqT K H a xs → xs[i]? = some x, fun i H => ∃ xs, SqT K H a xs ∧ xs.length ≤ i⟩
/-- lo, lo + 1, .. (n of them) -/
def Itr (lo : Int) (n : Nat) : It := ⟨fun i _ => i < n, fun i H x H' => H' = H ∧ x = .int (lo + i), fun i _ => n ≤ i⟩
theorem turn_list {P : Program} {w : World} {K : PySem.W.Frag} {tg : Expr} (a it : Addr) : Turn P w K tg (Itl K a) [it] it (fun i h => h.IsListIter it a i) where
  mem := by simp
  obj := fun i h st b hb => by
    have e : b = it := by simpa using hb
    subst e
    obtain ⟨o, e, c, d⟩ := st
    exact ⟨o, e, fun v z => by rw [d] at z; cases z⟩
  keep := fun i h h' st k => st.at fun o e => k it (by simp) o e
  item := by
    intro X hP hw hK hc i pins s σ H E I hf st hg
    subst hP hw hK
    obtain ⟨xs, x, hq, hx⟩ := hg
    obtain ⟨its, rv, p, hz⟩ := I.list hq
    obtain ⟨u, hu, ru⟩ := rv.get hx
    obtain ⟨f0, f1, f2, f3, f4, f5⟩ := hf it (by simp)
    refine wpAny_pyNext_list_item st p.isList (x := u) (by simpa using hu) fun h' st' sb => ?_
    have I1 : Inv X pins σ H { s with heap := h' } := I.turned (t' := s.toks) (fun b o hb e => (sb.2 b hb).trans e) f0 f1 f3 f4 f5
    obtain ⟨o, e, c, d⟩ := id st'
    exact ⟨u, rfl, go_of (s := { s with heap := h' }) e c d (by decide) ⟨x, H, I1, ru, ⟨rfl, fun ys hy => by rw [I.list_inj hy hq]; exact hx⟩, st', fun b hb => (hf b hb).1⟩⟩
  done := by
    intro X hP hw hK hc i pins s σ H E I hf st hg
    subst hP hw hK
    obtain ⟨xs, hq, hx⟩ := hg
    obtain ⟨its, rv, p, hz⟩ := I.list hq
    obtain ⟨f0, f1, f2, f3, f4, f5⟩ := hf it (by simp)
    have hl := rv.length
    exact wpAny_pyNext_list_end (I.ok.hd hc) st p.isList (by simp; omega) fun h' eb => ⟨rfl, I.turned (t' := s.toks) (fun b o hb e => eb b o hb e) f0 f1 f3 f4 f5⟩
  self := fun _ _ _ _ _ st h => wpAny_pyIter_listiter st h
theorem turn_tuple {P : Program} {w : World} {K : PySem.W.Frag} {tg : Expr} (a it : Addr) : Turn P w K tg (Itt K a) [it] it (fun i h => h.IsTupleIter it a i) where
  mem := by simp
  obj := fun i h st b hb => by
    have e : b = it := by simpa using hb
    subst e
    obtain ⟨o, e, c, d⟩ := st
    exact ⟨o, e, fun v z => by rw [d] at z; cases z⟩
  keep := fun i h h' st k => st.at fun o e => k it (by simp) o e
  item := by
    intro X hP hw hK hc i pins s σ H E I hf st hg
    subst hP hw hK
    obtain ⟨xs, x, hq, hx⟩ := hg
    obtain ⟨its, rv, p, hz⟩ := I.tuple hq
    obtain ⟨u, hu, ru⟩ := rv.get hx
    obtain ⟨f0, f1, f2, f3, f4, f5⟩ := hf it (by simp)
    refine wpAny_pyNext_tuple_item st (show s.heap.IsTuple a its.toArray from p) (x := u) (by simpa using hu) fun h' st' sb => ?_
    have I1 : Inv X pins σ H { s with heap := h' } := I.turned (t' := s.toks) (fun b o hb e => (sb.2 b hb).trans e) f0 f1 f3 f4 f5
    obtain ⟨o, e, c, d⟩ := id st'
    exact ⟨u, rfl, go_of (s := { s with heap := h' }) e c d (by decide) ⟨x, H, I1, ru, ⟨rfl, fun ys hy => by rw [I.tuple_inj hy hq]; exact hx⟩, st', fun b hb => (hf b hb).1⟩⟩
  done := by
    intro X hP hw hK hc i pins s σ H E I hf st hg
    subst hP hw hK
    obtain ⟨xs, hq, hx⟩ := hg
    obtain ⟨its, rv, p, hz⟩ := I.tuple hq
    obtain ⟨f0, f1, f2, f3, f4, f5⟩ := hf it (by simp)
    have hl := rv.length
    exact wpAny_pyNext_tuple_end (I.ok.hd hc) st (show s.heap.IsTuple a its.toArray from p) (by simp; omega) fun h' eb => ⟨rfl, I.turned (t' := s.toks) (fun b o hb e => eb b o hb e) f0 f1 f3 f4 f5⟩
  self := fun _ _ _ _ _ st h => wpAny_pyIter_tupleiter st h
theorem turn_range {P : Program} {w : World} {K : PySem.W.Frag} {tg : Expr} (it : Addr) (lo : Int) (n : Nat) : Turn P w K tg (Itr lo n) [it] it (fun i h => IsRangeIter h it (lo + (i : Nat) * 1) ((n : Int) - (i : Nat)) 1) where
  mem := by simp
  obj := fun i h st b hb => by
    have e : b = it := by simpa using hb
    subst e
    exact ⟨_, st, fun v z => by
      have z' : Data.fields _ = Data.cell v := z
      cases z'⟩
  keep := fun i h h' st k => k it (by simp) _ st
  item := by
    intro X hP hw hK hc i pins s σ H E I hf st hg
    subst hP hw hK
    obtain ⟨f0, f1, f2, f3, f4, f5⟩ := hf it (by simp)
    have W := Walks.range (prog := X.prog) (w := X.w) (I.ok.hd hc) it lo 1 n
    refine W.item i s _ _ hg st fun v h' tk hv st' kk => ?_
    obtain ⟨t, rfl⟩ := hv
    have I1 : Inv X pins σ H { s with heap := h', toks := tk } := I.turned (fun b o hb e => kk b o (by simpa using hb) e) f0 f1 f3 f4 f5
    refine ⟨_, rfl, go_of (s := { s with heap := h', toks := tk }) (n := "range_iterator") st' rfl rfl (by decide) ⟨.int (lo + i), H, I1, ⟨t, ?_⟩, ⟨rfl, rfl⟩, st', fun b hb => (hf b hb).1⟩⟩
    rw [Int.mul_one]
  done := by
    intro X hP hw hK hc i pins s σ H E I hf st hg
    subst hP hw hK
    obtain ⟨f0, f1, f2, f3, f4, f5⟩ := hf it (by simp)
    exact wpAny_pyNext_range_end (I.ok.hd hc) st (by have : n ≤ i := hg; omega) fun h' eb => ⟨rfl, I.turned (t' := s.toks) (fun b o hb e => eb b o hb e) f0 f1 f3 f4 f5⟩
  self := fun _ _ _ _ _ st h => wpAny_pyIter_rangeiter st h
end L2

namespace L2
open PySem PySem.Spec PyProof.Rows
section
variable {X : Cx} {tg : Expr}
def iList (K : PySem.W.Frag) (tl : TE) : TI := fun σ H R => tl σ H fun x H1 => ∃ a, x = .ref a ∧ (∃ xs, SqL K H1 a xs) ∧ R (Itl K a) H1
def iTup (K : PySem.W.Frag) (tl : TE) : TI := fun σ H R => tl σ H fun x H1 => ∃ a, x = .ref a ∧ (∃ xs, SqT K H1 a xs) ∧ R (Itt K a) H1
theorem pi_list {l : Expr} {tl : TE} (hl : PE X l tl) : PI X tg l (iList X.K tl) := by
  intro pins s σ H R I h
  refine thn (hl pins s σ H _ I h) fun v s1 ⟨x, H1, I1, r1, q1⟩ => ?_
  obtain ⟨a, e, ⟨xs, hq⟩, q⟩ := q1
  subst e
  cases r1
  obtain ⟨its, rv, p, hz⟩ := I1.list hq
  refine wpAny_pyIter_list p.isList ?_
  refine ⟨s1.heap.objs.size, [s1.heap.objs.size], _, _, H1, rfl, I1.kept (t' := s1.toks) fun b o e => Heap.get?_push_of_some _ e, turn_list a _, ⟨_, Heap.get?_push_size _ rfl, rfl, rfl⟩, fun b hb => ?_, q⟩
  have e : b = s1.heap.objs.size := by simpa using hb
  subst e
  exact I1.fpOk (Nat.le_refl _) (I1.hok.fresh (Nat.le_refl _))
theorem pi_tup {l : Expr} {tl : TE} (hl : PE X l tl) : PI X tg l (iTup X.K tl) := by
  intro pins s σ H R I h
  refine thn (hl pins s σ H _ I h) fun v s1 ⟨x, H1, I1, r1, q1⟩ => ?_
  obtain ⟨a, e, ⟨xs, hq⟩, q⟩ := q1
  subst e
  cases r1
  obtain ⟨its, rv, p, hz⟩ := I1.tuple hq
  refine wpAny_pyIter_tuple (show s1.heap.IsTuple a its.toArray from p) ?_
  refine ⟨s1.heap.objs.size, [s1.heap.objs.size], _, _, H1, rfl, I1.kept (t' := s1.toks) fun b o e => Heap.get?_push_of_some _ e, turn_tuple a _, ⟨_, Heap.get?_push_size _ rfl, rfl, rfl⟩, fun b hb => ?_, q⟩
  have e : b = s1.heap.objs.size := by simpa using hb
  subst e
  exact I1.fpOk (Nat.le_refl _) (I1.hok.fresh (Nat.le_refl _))
/-- a range object just made, walked -/
theorem range_it {pins : List (Addr × Obj)} {σ : St} {H : Hp} {s : Shared} {R : It → Hp → Prop} {E : Value → Shared → Prop} {lo hi : Int} {t u v : Tok} {tk : Nat} (I : Inv X pins σ H s) (h1 : -(2 ^ 62) ≤ lo) (h2 : lo < 2 ^ 62) (h3 : -(2 ^ 62) ≤ hi) (h4 : hi < 2 ^ 62)
    (q : R (Itr lo (hi - lo).toNat) H) : wpAny (model X.prog X.w) X.A (pyIter (.ref s.heap.objs.size)) (PIE X pins σ tg R) E { s with heap := s.heap.push { cls := .type "range", data := .fields #[.int lo t, .int hi u, .int 1 v] }, toks := tk } := by
  refine wpAny_pyIter_range (IsRange.new ..) (small_one h1 h2 h3 h4) ?_
  have I1 : Inv X pins σ H { s with heap := s.heap.push { cls := .type "range", data := .fields #[.int lo t, .int hi u, .int 1 v] }, toks := tk } := I.kept fun b o e => Heap.get?_push_of_some _ e
  refine ⟨(s.heap.push { cls := .type "range", data := .fields #[.int lo t, .int hi u, .int 1 v] }).objs.size, [(s.heap.push { cls := .type "range", data := .fields #[.int lo t, .int hi u, .int 1 v] }).objs.size], _, _, H, rfl,
    I1.kept (t' := tk) fun b o e => Heap.get?_push_of_some _ e, turn_range _ lo (hi - lo).toNat, ?_, fun b hb => ?_, q⟩
  · have e1 : lo + ((0 : Nat) : Int) * 1 = lo := by simp
    have e2 : (((hi - lo).toNat : Nat) : Int) - ((0 : Nat) : Int) = Builtin.Range.rangeSize lo hi 1 := by rw [rangeSize_one]; split <;> omega
    show IsRangeIter _ _ (lo + ((0 : Nat) : Int) * 1) ((((hi - lo).toNat : Nat) : Int) - ((0 : Nat) : Int)) 1
    rw [e1, e2]
    exact Heap.get?_push_size _ rfl
  · have e : b = (s.heap.push { cls := .type "range", data := .fields #[.int lo t, .int hi u, .int 1 v] }).objs.size := by simpa using hb
    subst e
    exact I1.fpOk (Nat.le_refl _) (I1.hok.fresh (Nat.le_refl _))
def iRng1 (ta : TA) : TI := fun σ H R => ta σ H fun vs H1 => ∃ j : Int, vs = [.int j] ∧ -(2 ^ 62) ≤ j ∧ j < 2 ^ 62 ∧ R (Itr 0 j.toNat) H1
def iRng2 (ta : TA) : TI := fun σ H R => ta σ H fun vs H1 => ∃ i j : Int, vs = [.int i, .int j] ∧ (-(2 ^ 62) ≤ i ∧ i < 2 ^ 62 ∧ -(2 ^ 62) ≤ j ∧ j < 2 ^ 62) ∧ R (Itr i (j - i).toNat) H1
theorem pi_range1 {a : Expr} {ta : TA} {p pos : Pos} (hg : Gl X "range") (hm : X.mg "range" = none) (ha : PA X [a] ta) (hs : starEach [a] X.env = [(false, eval a X.env)] := by rfl) : PI X tg (.Call (.Name "range" p) [a] [] pos) (iRng1 ta) := by
  intro pins s σ H R I h
  refine Call_ (ld_blt I hg hm boot_range (PyProof.Rows.callWith_type1 (thn (ha pos pins s σ H _ I h) fun us s1 ⟨vs, H1, I1, r1, q1⟩ => ?_) hs rfl))
  obtain ⟨j, e, q1, q2, q⟩ := q1
  subst e
  cases r1 with
  | cons r rr =>
    cases rr
    obtain ⟨t, rfl⟩ := r
    exact call_range_1 (range_it I1 (by omega) (by omega) q1 q2 (by simpa using q))
theorem pi_range2 {a b : Expr} {ta : TA} {p pos : Pos} (hg : Gl X "range") (hm : X.mg "range" = none) (ha : PA X [a, b] ta) (hs : starEach [a, b] X.env = [(false, eval a X.env), (false, eval b X.env)] := by rfl) (hs2 : starEach [b] X.env = [(false, eval b X.env)] := by rfl) :
    PI X tg (.Call (.Name "range" p) [a, b] [] pos) (iRng2 ta) := by
  intro pins s σ H R I h
  refine Call_ (ld_blt I hg hm boot_range (PyProof.Rows.callWith_type1 (thn (ha pos pins s σ H _ I h) fun us s1 ⟨vs, H1, I1, r1, q1⟩ => ?_) (by rw [hs, hs2]) (by rw [hs2]; rfl)))
  obtain ⟨i, j, e, ⟨q1, q2, q3, q4⟩, q⟩ := q1
  subst e
  cases r1 with
  | cons r rr =>
    cases rr with
    | cons r' rr =>
      cases rr
      obtain ⟨t, rfl⟩ := r
      obtain ⟨t', rfl⟩ := r'
      exact call_range_2 (range_it I1 q1 q2 q3 q4 q)

/-! ### for -/
/-- W: the invariant by the turn and a measure; N: what the body is to reach -/
def tFor (wi : TI) (g : TG) (tb : TS) : TS := fun D σ H => wi σ H fun J H1 => ∃ W : Nat → Nat → St → Hp → Prop, (∃ m, W 0 m σ H1) ∧ ∀ i m σ H, W i m σ H →
  (J.stop i H ∧ D.nx σ H) ∨ (J.go i H ∧ ∃ N : St → Hp → Prop, (∀ σ' H', N σ' H' → ∃ m', m' < m ∧ W (i + 1) m' σ' H') ∧ ∀ x H', J.yld i H x H' → g x σ H' fun σ2 H2 => tb { D with nx := N, ct := N, bk := D.nx } σ2 H2)
/-- the records at fp as they stand -/
def pinsAt (fp : List Addr) (h : Heap) : List (Addr × Obj) := fp.filterMap fun b => (h.get? b).map fun o => (b, o)
theorem mem_pinsAt {fp : List Addr} {h : Heap} {b : Addr} {o : Obj} (hb : b ∈ fp) (e : h.get? b = some o) : (b, o) ∈ pinsAt fp h := List.mem_filterMap.mpr ⟨b, hb, by rw [e]; rfl⟩
theorem of_pinsAt {fp : List Addr} {h : Heap} {p : Addr × Obj} (hp : p ∈ pinsAt fp h) : p.1 ∈ fp ∧ h.get? p.1 = some p.2 := by
  obtain ⟨b, hb, e⟩ := List.mem_filterMap.mp hp
  cases q : h.get? b with
  | none => rw [q] at e; cases e
  | some o =>
    rw [q] at e
    have e' : (b, o) = p := Option.some.inj e
    subst e'
    exact ⟨hb, q⟩
theorem Inv.pinned {pins : List (Addr × Obj)} {σ : St} {H : Hp} {s : Shared} {fp : List Addr} (I : Inv X pins σ H s) (hf : ∀ b ∈ fp, FpOk X pins H b) (ho : ∀ b ∈ fp, ∃ o, s.heap.get? b = some o ∧ ∀ v, o.data ≠ .cell v) : Inv X (pins ++ pinsAt fp s.heap) σ H s :=
  I.pins_of fun p hp => (List.mem_append.mp hp).elim (fun z => I.pin p (List.mem_append_right _ z)) fun z => by
    obtain ⟨hb, e⟩ := of_pinsAt z
    obtain ⟨f0, f1, f2, _⟩ := hf p.1 hb
    obtain ⟨o, e', d⟩ := ho p.1 hb
    rw [e] at e'; cases e'
    exact ⟨e, f0, f1, f2, d⟩
theorem Inv.unpinned {pins pl : List (Addr × Obj)} {σ : St} {H : Hp} {s : Shared} (I : Inv X (pins ++ pl) σ H s) : Inv X pins σ H s := I.pins_of fun p hp => I.pin p (List.mem_append_right _ (List.mem_append_left _ hp))
theorem ps_for {iter : Expr} {body : List Stmt} {wi : TI} {g : TG} {tb : TS} {pos : Pos} (hp : PassesOwn (model X.prog X.w) X.A X.env X.xe) (hc : X.calm = true) (hi : PI X tg iter wi) (hg : PG X tg g) (hb : PSs X body tb)
    (hs : ∀ x, foldedSetIterable iter X.env x = pure x := by intro _; rfl) : PS X (.For tg iter body [] pos) (tFor wi g tb) := by
  intro pins s σ H D I h
  refine wpAny_For (thn (hi pins s σ H _ I h) fun v s1 h1 => thn h1 fun itv s2 h2 => ?_) hs
  obtain ⟨it, fp, tn, J, H2, e, I2, T, st2, f2, W, ⟨m0, w0⟩, turn⟩ := h2
  subst e
  -- what stays true of the iterator's objects through the loop
  have stat : ∀ {H' : Hp}, (∀ b ∈ fp, H' b = none) → ∀ b ∈ fp, FpOk X pins H' b := fun hn b hb => ⟨hn b hb, (f2 b hb).2⟩
  refine codeAny_forLoop_any (fun n s' => ∃ i σ' H', Inv X pins σ' H' s' ∧ tn i s'.heap ∧ (∀ b ∈ fp, H' b = none) ∧ W i n σ' H') ?_ m0 ⟨0, σ, H2, I2, st2, fun b hb => (f2 b hb).1, w0⟩
  rintro n s3 ⟨i, σ3, H3, I3, st3, fr3, w3⟩
  rcases turn i n σ3 H3 w3 with ⟨stop, qn⟩ | ⟨go, N, hN, step⟩
  · refine wpAny_passesOwn hp (thn (T.done X rfl rfl rfl hc i pins s3 σ3 H3 X.xe I3 (stat fr3) st3 stop) fun r s4 ⟨hr, I4⟩ => ?_)
    subst hr
    exact wpAny_execs_nil ⟨σ3, H3, I4, qn⟩
  · refine wpAny_passesOwn hp (thn (T.item X rfl rfl rfl hc i pins s3 σ3 H3 X.xe I3 (stat fr3) st3 go) fun r s4 ⟨u, hr, h4⟩ => ?_)
    subst hr
    refine wpAny_passesOwn hp (thn h4 fun _ s5 ⟨x, H5, I5, r5, y5, st5, fr5⟩ => ?_)
    have I5' := I5.pinned (stat fr5) (T.obj _ _ st5)
    refine wpAny_passesOwn hp (thn (hg _ s5 σ3 H5 x u _ I5' r5 (step x H5 y5)) fun _ s6 ⟨σ6, H6, I6, q6⟩ => ?_)
    refine wpAny_passesOwn hp (thn (hb _ s6 σ6 H6 _ I6 q6) fun f s7 q7 => ?_)
    have again : ∀ {σ7 : St} {H7 : Hp}, Inv X (pins ++ pinsAt fp s5.heap) σ7 H7 s7 → N σ7 H7 → ∃ m, m < n ∧ ∃ i σ' H', Inv X pins σ' H' s7 ∧ tn i s7.heap ∧ (∀ b ∈ fp, H' b = none) ∧ W i m σ' H' := fun {σ7 H7} I7 n7 => by
      obtain ⟨m', hm, w7⟩ := hN σ7 H7 n7
      refine ⟨m', hm, i + 1, σ7, H7, I7.unpinned, T.keep _ _ _ st5 fun b hb o e => (I7.pin (b, o) (List.mem_append_right _ (List.mem_append_right _ (mem_pinsAt hb e)))).1, fun b hb => ?_, w7⟩
      obtain ⟨o, e, d⟩ := T.obj _ _ st5 b hb
      exact (I7.pin (b, o) (List.mem_append_right _ (List.mem_append_right _ (mem_pinsAt hb e)))).2.1
    cases f with
    | next => obtain ⟨σ7, H7, I7, n7⟩ := q7; exact again I7 n7
    | cont => obtain ⟨σ7, H7, I7, n7⟩ := q7; exact again I7 n7
    | brk => obtain ⟨σ7, H7, I7, q7⟩ := q7; exact ⟨σ7, H7, I7.unpinned, q7⟩
    | ret v => obtain ⟨x7, σ7, H7, I7, r7, q7⟩ := q7; exact ⟨x7, σ7, H7, I7.unpinned, r7, q7⟩
end

/-! ### the forms one uses -/
/-- over a list that the body leaves as it is -/
theorem for_list {K : PySem.W.Frag} {a : Addr} {xs : List V} {g : TG} {tb : TS} {D : Ends} {σ : St} {H : Hp} (Pv : Nat → St → Hp → Prop) (h0 : Pv 0 σ H) (hl : ∀ i σ H, i ≤ xs.length → Pv i σ H → SqL K H a xs)
    (hs : ∀ i x σ H, xs[i]? = some x → Pv i σ H → g x σ H fun σ2 H2 => tb { D with nx := Pv (i + 1), ct := Pv (i + 1), bk := D.nx } σ2 H2) (hd : ∀ σ H, Pv xs.length σ H → D.nx σ H) :
    ∃ W : Nat → Nat → St → Hp → Prop, (∃ m, W 0 m σ H) ∧ ∀ i m σ H, W i m σ H →
      ((Itl K a).stop i H ∧ D.nx σ H) ∨ ((Itl K a).go i H ∧ ∃ N : St → Hp → Prop, (∀ σ' H', N σ' H' → ∃ m', m' < m ∧ W (i + 1) m' σ' H') ∧ ∀ x H', (Itl K a).yld i H x H' → g x σ H' fun σ2 H2 => tb { D with nx := N, ct := N, bk := D.nx } σ2 H2) := by
  refine ⟨fun i m σ H => m = xs.length - i ∧ i ≤ xs.length ∧ Pv i σ H, ⟨xs.length, by simp, Nat.zero_le _, h0⟩, ?_⟩
  rintro i m σ H ⟨rfl, hi, p⟩
  have q := hl i σ H hi p
  by_cases hlt : i < xs.length
  · refine .inr ⟨⟨xs, xs[i], q, by simp [hlt]⟩, Pv (i + 1), fun σ' H' p' => ⟨xs.length - (i + 1), by omega, rfl, hlt, p'⟩, fun x H' y => ?_⟩
    obtain ⟨e, y⟩ := y
    subst e
    exact hs i x σ _ (y xs q) p
  · have e : i = xs.length := by omega
    subst e
    exact .inl ⟨⟨xs, q, Nat.le_refl _⟩, hd σ H p⟩
theorem for_tup {K : PySem.W.Frag} {a : Addr} {xs : List V} {g : TG} {tb : TS} {D : Ends} {σ : St} {H : Hp} (Pv : Nat → St → Hp → Prop) (h0 : Pv 0 σ H) (hl : ∀ i σ H, i ≤ xs.length → Pv i σ H → SqT K H a xs)
    (hs : ∀ i x σ H, xs[i]? = some x → Pv i σ H → g x σ H fun σ2 H2 => tb { D with nx := Pv (i + 1), ct := Pv (i + 1), bk := D.nx } σ2 H2) (hd : ∀ σ H, Pv xs.length σ H → D.nx σ H) :
    ∃ W : Nat → Nat → St → Hp → Prop, (∃ m, W 0 m σ H) ∧ ∀ i m σ H, W i m σ H →
      ((Itt K a).stop i H ∧ D.nx σ H) ∨ ((Itt K a).go i H ∧ ∃ N : St → Hp → Prop, (∀ σ' H', N σ' H' → ∃ m', m' < m ∧ W (i + 1) m' σ' H') ∧ ∀ x H', (Itt K a).yld i H x H' → g x σ H' fun σ2 H2 => tb { D with nx := N, ct := N, bk := D.nx } σ2 H2) := by
  refine ⟨fun i m σ H => m = xs.length - i ∧ i ≤ xs.length ∧ Pv i σ H, ⟨xs.length, by simp, Nat.zero_le _, h0⟩, ?_⟩
  rintro i m σ H ⟨rfl, hi, p⟩
  have q := hl i σ H hi p
  by_cases hlt : i < xs.length
  · refine .inr ⟨⟨xs, xs[i], q, by simp [hlt]⟩, Pv (i + 1), fun σ' H' p' => ⟨xs.length - (i + 1), by omega, rfl, hlt, p'⟩, fun x H' y => ?_⟩
    obtain ⟨e, y⟩ := y
    subst e
    exact hs i x σ _ (y xs q) p
  · have e : i = xs.length := by omega
    subst e
    exact .inl ⟨⟨xs, q, Nat.le_refl _⟩, hd σ H p⟩
theorem for_range {lo : Int} {n : Nat} {g : TG} {tb : TS} {D : Ends} {σ : St} {H : Hp} (Pv : Nat → St → Hp → Prop) (h0 : Pv 0 σ H)
    (hs : ∀ i σ H, i < n → Pv i σ H → g (.int (lo + i)) σ H fun σ2 H2 => tb { D with nx := Pv (i + 1), ct := Pv (i + 1), bk := D.nx } σ2 H2) (hd : ∀ σ H, Pv n σ H → D.nx σ H) :
    ∃ W : Nat → Nat → St → Hp → Prop, (∃ m, W 0 m σ H) ∧ ∀ i m σ H, W i m σ H →
      ((Itr lo n).stop i H ∧ D.nx σ H) ∨ ((Itr lo n).go i H ∧ ∃ N : St → Hp → Prop, (∀ σ' H', N σ' H' → ∃ m', m' < m ∧ W (i + 1) m' σ' H') ∧ ∀ x H', (Itr lo n).yld i H x H' → g x σ H' fun σ2 H2 => tb { D with nx := N, ct := N, bk := D.nx } σ2 H2) := by
  refine ⟨fun i m σ H => m = n - i ∧ i ≤ n ∧ Pv i σ H, ⟨n, by simp, Nat.zero_le _, h0⟩, ?_⟩
  rintro i m σ H ⟨rfl, hi, p⟩
  by_cases hlt : i < n
  · refine .inr ⟨hlt, Pv (i + 1), fun σ' H' p' => ⟨n - (i + 1), by omega, rfl, hlt, p'⟩, fun x H' y => ?_⟩
    obtain ⟨e, y⟩ := y
    subst e y
    exact hs i σ _ hlt p
  · have e : i = n := by omega
    subst e
    exact .inl ⟨Nat.le_refl _, hd σ H p⟩
/-- while, by a word and a measure of the state -/
theorem while_by {c : TT} {tb : TS} {D : Ends} {σ : St} {H : Hp} (Pv : St → Hp → Prop) (μ : St → Hp → Nat) (h0 : Pv σ H)
    (hs : ∀ σ H, Pv σ H → c σ H fun b H1 => if b = true then tb { D with nx := fun σ' H' => Pv σ' H' ∧ μ σ' H' < μ σ H, ct := fun σ' H' => Pv σ' H' ∧ μ σ' H' < μ σ H, bk := D.nx } σ H1 else D.nx σ H1)
    (mono : ∀ σ H Q Q', (∀ b H1, Q b H1 → Q' b H1) → c σ H Q → c σ H Q') : tWhile c tb D σ H := by
  refine ⟨fun m σ H => m = μ σ H ∧ Pv σ H, ⟨_, rfl, h0⟩, ?_⟩
  rintro m σ H ⟨rfl, p⟩
  refine mono σ H _ _ (fun b H1 q => ?_) (hs σ H p)
  cases b with
  | true => exact ⟨_, fun σ' H' ⟨p', l⟩ => ⟨_, l, rfl, p'⟩, q⟩
  | false => exact q
end L2

namespace L2
open PySem PySem.Spec PyProof.Rows

abbrev R2 := V → V → Hp → VK → Prop
/-- a two-place operation on values: f is binaryOp op, inplaceOp op or compareOp op -/
def OpR (X : Cx) (f : Value → Value → Sem Value) (r : R2) : Prop :=
  ∀ (pins : List (Addr × Obj)) (s : Shared) (σ : St) (H : Hp) (x y : V) (v u : Value) (Q : VK), Inv X pins σ H s → RelV x v → RelV y u → r x y H Q →
    wpAny (model X.prog X.w) X.A (f v u) (EP X pins σ Q) X.xe s
/-- a one-place operation -/
def UnR (X : Cx) (f : Value → Sem Value) (r : V → Hp → VK → Prop) : Prop :=
  ∀ (pins : List (Addr × Obj)) (s : Shared) (σ : St) (H : Hp) (x : V) (v : Value) (Q : VK), Inv X pins σ H s → RelV x v → r x H Q →
    wpAny (model X.prog X.w) X.A (f v) (EP X pins σ Q) X.xe s
/-- a call of a value that is known (a builtin, a type) with values -/
def CallR (X : Cx) (f : Value) (r : List V → Hp → VK → Prop) : Prop :=
  ∀ (pins : List (Addr × Obj)) (s : Shared) (σ : St) (H : Hp) (xs : List V) (us : List Value) (Q : VK), Inv X pins σ H s → Vals xs us → r xs H Q →
    wpAny (model X.prog X.w) X.A (call f us) (EP X pins σ Q) X.xe s
/-- a value's truth -/
def TruR (X : Cx) (r : V → Hp → (Bool → Hp → Prop) → Prop) : Prop :=
  ∀ (pins : List (Addr × Obj)) (s : Shared) (σ : St) (H : Hp) (x : V) (v : Value) (Q : Bool → Hp → Prop), Inv X pins σ H s → RelV x v → r x H Q →
    wpAny (model X.prog X.w) X.A (truthy v) (TP X pins σ Q) X.xe s

def tOp (r : R2) (ta tb : TE) : TE := fun σ H Q => ta σ H fun x H1 => tb σ H1 fun y H2 => r x y H2 Q
def tUn (r : V → Hp → VK → Prop) (ta : TE) : TE := fun σ H Q => ta σ H fun x H1 => r x H1 Q
/-- ints in, under C, and a value out -/
def rI (C : Int → Int → Prop) (g : Int → Int → V) : R2 := fun x y H Q => ∃ i j, x = .int i ∧ y = .int j ∧ C i j ∧ Q (g i j) H
def rI0 (g : Int → Int → V) : R2 := fun x y H Q => ∃ i j, x = .int i ∧ y = .int j ∧ Q (g i j) H
def rU (g : Int → V) : V → Hp → VK → Prop := fun x H Q => ∃ i, x = .int i ∧ Q (g i) H

section
variable {X : Cx} {a b c : Expr} {ta tb tc : TE} {pos : Pos}

theorem binT (ha : PE X a ta) (hb : PE X b tb) {pins : List (Addr × Obj)} {s : Shared} {σ : St} {H : Hp} {R : V → V → Hp → Prop} (I : Inv X pins σ H s)
    (h : ta σ H fun x H1 => tb σ H1 fun y H2 => R x y H2) {Q : Value → Shared → Prop} {f : Value → Value → Sem Value}
    (hf : ∀ v u s2 x y H2, Inv X pins σ H2 s2 → RelV x v → RelV y u → R x y H2 → wpAny (model X.prog X.w) X.A (f v u) Q X.xe s2) :
    wpAny (model X.prog X.w) X.A (eval a X.env) (fun v s₁ => wpAny (model X.prog X.w) X.A (eval b X.env) (fun u s₂ => wpAny (model X.prog X.w) X.A (f v u) Q X.xe s₂) X.xe s₁) X.xe s := by
  refine thn (ha pins s σ H _ I h) fun v s1 ⟨x, H1, I1, r1, q1⟩ => ?_
  refine thn (hb pins s1 σ H1 _ I1 q1) fun u s2 ⟨y, H2, I2, r2, q2⟩ => ?_
  exact hf v u s2 x y H2 I2 r1 r2 q2

theorem pe_op {op : Operator} {r : R2} (ho : OpR X (binaryOp op) r) (ha : PE X a ta) (hb : PE X b tb) : PE X (.BinOp a op b pos) (tOp r ta tb) := by
  intro pins s σ H Q I h
  exact wpAny_BinOp (binT ha hb I h fun v u s2 x y H2 I2 rx ry q => ho pins s2 σ H2 x y v u Q I2 rx ry q)
theorem pe_un {op : UnaryOp} {r : V → Hp → VK → Prop} (ho : UnR X (unaryOp op) r) (ha : PE X a ta) : PE X (.UnaryOp op a pos) (tUn r ta) := by
  intro pins s σ H Q I h
  exact UnaryOp_ (thn (ha pins s σ H _ I h) fun v s1 ⟨x, H1, I1, r1, q1⟩ => ho pins s1 σ H1 x v Q I1 r1 q1)
/-- a op= e at a name: the name's slot i -/
theorem augR {op : Operator} {r : R2} (ho : OpR X (inplaceOp op) r) {pins : List (Addr × Obj)} {s : Shared} {σ : St} {H : Hp} {x y : V} {v u : Value} {Q : VK} (I : Inv X pins σ H s)
    (rx : RelV x v) (ry : RelV y u) (q : r x y H Q) : wpAny (model X.prog X.w) X.A (inplaceOp op v u) (EP X pins σ Q) X.xe s := ho pins s σ H x y v u Q I rx ry q

/-! ### ints -/
theorem opI {f : Value → Value → Sem Value} {C : Int → Int → Prop} {g : Int → Int → Int}
    (rule : ∀ (i j : Int) (t u : Tok) (s : Shared) (Q : Value → Shared → Prop) (E : Value → Shared → Prop), C i j → Q (.int (g i j) s.toks) { s with toks := s.toks + 1 } → wpAny (model X.prog X.w) X.A (f (.int i t) (.int j u)) Q E s) :
    OpR X f (rI C fun i j => .int (g i j)) := by
  intro pins s σ H x y v u Q I rx ry h
  obtain ⟨i, j, rfl, rfl, hc, q⟩ := h
  obtain ⟨t, rfl⟩ := rx
  obtain ⟨t', rfl⟩ := ry
  exact rule i j t t' s _ _ hc ⟨.int (g i j), H, I.tok _, ⟨_, rfl⟩, q⟩
theorem opI0 {f : Value → Value → Sem Value} {g : Int → Int → Int}
    (rule : ∀ (i j : Int) (t u : Tok) (s : Shared) (Q : Value → Shared → Prop) (E : Value → Shared → Prop), Q (.int (g i j) s.toks) { s with toks := s.toks + 1 } → wpAny (model X.prog X.w) X.A (f (.int i t) (.int j u)) Q E s) :
    OpR X f (rI0 fun i j => .int (g i j)) := by
  intro pins s σ H x y v u Q I rx ry h
  obtain ⟨i, j, rfl, rfl, q⟩ := h
  obtain ⟨t, rfl⟩ := rx
  obtain ⟨t', rfl⟩ := ry
  exact rule i j t t' s _ _ ⟨.int (g i j), H, I.tok _, ⟨_, rfl⟩, q⟩
theorem opB0 {f : Value → Value → Sem Value} {g : Int → Int → Bool}
    (rule : ∀ (i j : Int) (t u : Tok) (s : Shared) (Q : Value → Shared → Prop) (E : Value → Shared → Prop), Q (.bool (g i j)) s → wpAny (model X.prog X.w) X.A (f (.int i t) (.int j u)) Q E s) :
    OpR X f (rI0 fun i j => .bl (g i j)) := by
  intro pins s σ H x y v u Q I rx ry h
  obtain ⟨i, j, rfl, rfl, q⟩ := h
  obtain ⟨t, rfl⟩ := rx
  obtain ⟨t', rfl⟩ := ry
  exact rule i j t t' s _ _ ⟨.bl (g i j), H, I, rfl, q⟩

def CDiv (i j : Int) : Prop := 0 < j ∧ j < 1073741824
def CDivN (i j : Int) : Prop := j ≠ 0 ∧ j.natAbs < 1073741824
def CPow (i j : Int) : Prop := 0 ≤ j ∧ j ≤ 1000000 ∧ i.natAbs < 2 ^ 64
def CMul (i j : Int) : Prop := (-(2 ^ 64) < i ∧ i < 2 ^ 64) ∨ (-(2 ^ 64) < j ∧ j < 2 ^ 64)
theorem CMul.ok {i j : Int} (h : CMul i j) : IntMulOk i j := by
  rcases h with ⟨h1, h2⟩ | ⟨h1, h2⟩
  · exact .of_left (intBits_le_64 h1 h2)
  · exact .of_right (intBits_le_64 h1 h2)
theorem two_pow_nn (k : Nat) : (0 : Int) ≤ 2 ^ k := by
  rw [two_pow_cast]
  exact Int.natCast_nonneg _

theorem op_add : OpR X (binaryOp .Add) (rI0 fun i j => .int (i + j)) := opI0 fun _ _ _ _ _ _ _ q => add_int q
theorem op_sub : OpR X (binaryOp .Sub) (rI0 fun i j => .int (i - j)) := opI0 fun _ _ _ _ _ _ _ q => sub_int q
theorem op_mul : OpR X (binaryOp .Mult) (rI CMul fun i j => .int (i * j)) := opI fun _ _ _ _ _ _ _ hc q => mul_int q hc.ok
/-- // by a positive divisor -/
theorem op_fdiv : OpR X (binaryOp .FloorDiv) (rI CDiv fun i j => .int (i / j)) := opI fun i j _ _ _ _ _ hc q => by
  have h1 : (0 : Int) < j := hc.1
  have h2 : j < 1073741824 := hc.2
  exact floordiv_int (by omega) (by rw [Int.fdiv_eq_ediv_of_nonneg i (by omega)]; exact q) (.inl (PyProof.noPylong_small (by omega)))
theorem op_fdivN : OpR X (binaryOp .FloorDiv) (rI CDivN fun i j => .int (i.fdiv j)) := opI fun _ _ _ _ _ _ _ hc q => floordiv_int hc.1 q (.inl (PyProof.noPylong_small hc.2))
/-- % by a positive divisor of any size -/
theorem op_mod : OpR X (binaryOp .Mod) (rI (fun _ j => 0 < j) fun i j => .int (i % j)) := opI fun i j _ _ _ _ _ hc q => by
  have h1 : (0 : Int) < j := hc
  exact mod_int' (by omega) (by rw [Int.fmod_eq_emod_of_nonneg i (by omega)]; exact q)
theorem op_modN : OpR X (binaryOp .Mod) (rI (fun _ j => j ≠ 0) fun i j => .int (i.fmod j)) := opI fun _ _ _ _ _ _ _ hc q => mod_int' hc q
theorem op_pow : OpR X (binaryOp .Pow) (rI CPow fun i j => .int (i ^ j.toNat)) := opI fun _ _ _ _ _ _ _ hc q => pow_int_small hc.1 hc.2.1 hc.2.2 q
theorem op_shl : OpR X (binaryOp .LShift) (rI CPow fun i j => .int (i * 2 ^ j.toNat)) := opI fun _ _ _ _ _ _ _ hc q => lshift_int_small hc.1 hc.2.1 hc.2.2 q
theorem op_shr : OpR X (binaryOp .RShift) (rI (fun _ j => 0 ≤ j) fun i j => .int (i / 2 ^ j.toNat)) := opI fun i j _ _ _ _ _ hc q =>
  rshift_int hc (by rw [Int.fdiv_eq_ediv_of_nonneg i (two_pow_nn _)]; exact q)
theorem op_and : OpR X (binaryOp .BitAnd) (rI0 fun i j => .int (Builtin.bitAnd i j)) := opI0 fun _ _ _ _ _ _ _ q => and_int q
theorem op_or : OpR X (binaryOp .BitOr) (rI0 fun i j => .int (Builtin.bitOr i j)) := opI0 fun _ _ _ _ _ _ _ q => or_int q
theorem op_xor : OpR X (binaryOp .BitXor) (rI0 fun i j => .int (Builtin.bitXor i j)) := opI0 fun _ _ _ _ _ _ _ q => xor_int q

theorem iop_add : OpR X (inplaceOp .Add) (rI0 fun i j => .int (i + j)) := opI0 fun _ _ _ _ _ _ _ q => iadd_int q
theorem iop_sub : OpR X (inplaceOp .Sub) (rI0 fun i j => .int (i - j)) := opI0 fun _ _ _ _ _ _ _ q => isub_int q
theorem iop_mul : OpR X (inplaceOp .Mult) (rI CMul fun i j => .int (i * j)) := opI fun _ _ _ _ _ _ _ hc q => imul_int q hc.ok
theorem iop_fdiv : OpR X (inplaceOp .FloorDiv) (rI CDiv fun i j => .int (i / j)) := opI fun i j _ _ _ _ _ hc q => by
  have h1 : (0 : Int) < j := hc.1
  have h2 : j < 1073741824 := hc.2
  exact ifloordiv_int (by omega) (by rw [Int.fdiv_eq_ediv_of_nonneg i (by omega)]; exact q) (.inl (PyProof.noPylong_small (by omega)))
theorem iop_mod : OpR X (inplaceOp .Mod) (rI (fun _ j => 0 < j) fun i j => .int (i % j)) := opI fun i j _ _ _ _ _ hc q => by
  have h1 : (0 : Int) < j := hc
  exact imod_int (by omega) (by rw [Int.fmod_eq_emod_of_nonneg i (by omega)]; exact q)
theorem iop_shl : OpR X (inplaceOp .LShift) (rI CPow fun i j => .int (i * 2 ^ j.toNat)) := opI fun _ _ _ _ _ _ _ hc q => ilshift_int_small hc.1 hc.2.1 hc.2.2 q
theorem iop_shr : OpR X (inplaceOp .RShift) (rI (fun _ j => 0 ≤ j) fun i j => .int (i / 2 ^ j.toNat)) := opI fun i j _ _ _ _ _ hc q =>
  irshift_int hc (by rw [Int.fdiv_eq_ediv_of_nonneg i (two_pow_nn _)]; exact q)
theorem iop_and : OpR X (inplaceOp .BitAnd) (rI0 fun i j => .int (Builtin.bitAnd i j)) := opI0 fun _ _ _ _ _ _ _ q => iand_int q
theorem iop_or : OpR X (inplaceOp .BitOr) (rI0 fun i j => .int (Builtin.bitOr i j)) := opI0 fun _ _ _ _ _ _ _ q => ior_int q
theorem iop_xor : OpR X (inplaceOp .BitXor) (rI0 fun i j => .int (Builtin.bitXor i j)) := opI0 fun _ _ _ _ _ _ _ q => ixor_int q

theorem unI {f : Value → Sem Value} {g : Int → Int}
    (rule : ∀ (i : Int) (t : Tok) (s : Shared) (Q : Value → Shared → Prop) (E : Value → Shared → Prop), Q (.int (g i) s.toks) { s with toks := s.toks + 1 } → wpAny (model X.prog X.w) X.A (f (.int i t)) Q E s) :
    UnR X f (rU fun i => .int (g i)) := by
  intro pins s σ H x v Q I rx h
  obtain ⟨i, rfl, q⟩ := h
  obtain ⟨t, rfl⟩ := rx
  exact rule i t s _ _ ⟨.int (g i), H, I.tok _, ⟨_, rfl⟩, q⟩
theorem un_neg : UnR X (unaryOp .USub) (rU fun i => .int (-i)) := unI fun _ _ _ _ _ q => neg_int q
theorem un_inv : UnR X (unaryOp .Invert) (rU fun i => .int (Builtin.bitNot i)) := unI fun _ _ _ _ _ q => invert_int q

/-! ### bools among ints: n += (a < b) -/
theorem op_add_ib : OpR X (binaryOp .Add) (fun x y H Q => ∃ i k, x = .int i ∧ y = .bl k ∧ Q (.int (i + b2i k)) H) := by
  intro pins s σ H x y v u Q I rx ry h
  obtain ⟨i, k, rfl, rfl, q⟩ := h
  obtain ⟨t, rfl⟩ := rx
  cases ry
  exact add_int_bool ⟨.int (i + b2i k), H, I.tok _, ⟨_, rfl⟩, q⟩
end

/-! ### comparisons -/
/-- the scalars that == tells apart as data does -/
def scal : V → V → Bool
  | .non, .non => true | .non, .int _ => true | .int _, .non => true | .non, .bl _ => true | .bl _, .non => true | .non, .str _ => true | .str _, .non => true
  | .int _, .int _ => true | .bl _, .bl _ => true | .str _, .str _ => true | .byt _, .byt _ => true
  | .int _, .str _ => true | .str _, .int _ => true | .bl _, .str _ => true | .str _, .bl _ => true
  | _, _ => false
def rEq : R2 := fun x y H Q => scal x y = true ∧ Q (.bl (decide (x = y))) H
def rNe : R2 := fun x y H Q => scal x y = true ∧ Q (.bl (!decide (x = y))) H

theorem dec_int {i j : Int} : decide (V.int i = V.int j) = (i == j) := by
  rw [Bool.eq_iff_iff]
  simp
theorem dec_bl {i j : Bool} : decide (V.bl i = V.bl j) = (i == j) := by
  rw [Bool.eq_iff_iff]
  simp
theorem dec_str {i j : Str} : decide (V.str i = V.str j) = (i == j) := by
  rw [Bool.eq_iff_iff]
  simp
theorem dec_byt {i j : Array UInt8} : decide (V.byt i = V.byt j) = (i.toList == j.toList) := by
  rw [Bool.eq_iff_iff]
  cases i
  cases j
  simp

section
variable {X : Cx} {a b c : Expr} {ta tb tc : TE} {pos : Pos}
theorem fin_bl {pins : List (Addr × Obj)} {σ : St} {H : Hp} {s : Shared} {Q : VK} {k k' : Bool} (I : Inv X pins σ H s) (q : Q (.bl k) H) (e : k = k') : EP X pins σ Q (.bool k') s := by
  subst e
  exact ⟨.bl k, H, I, rfl, q⟩
theorem op_eq : OpR X (compareOp .Eq) rEq := by
  intro pins s σ H x y v u Q I rx ry h
  obtain ⟨hs, q⟩ := h
  cases x with
  | non =>
    cases rx
    cases y with
    | non => cases ry; exact PySem.EqNone.eq_none_none (fin_bl I q (by simp))
    | bl j => cases ry; exact PySem.EqNone.eq_none_bool (fin_bl I q (by simp))
    | int j => obtain ⟨t', rfl⟩ := ry; exact PySem.EqNone.eq_none_int (fin_bl I q (by simp))
    | str j => obtain ⟨t', rfl⟩ := ry; exact PySem.EqNone.eq_none_str (fin_bl I q (by simp))
    | _ => exact absurd (show false = true from hs) Bool.false_ne_true
  | bl i =>
    cases rx
    cases y with
    | non => cases ry; exact PySem.EqNone.eq_bool_none (fin_bl I q (by simp))
    | bl j => cases ry; exact eq_bool (fin_bl I q dec_bl)
    | str j => obtain ⟨t', rfl⟩ := ry; exact PySem.EqMixed.eq_bool_str (fin_bl I q (by simp))
    | _ => exact absurd (show false = true from hs) Bool.false_ne_true
  | int i =>
    obtain ⟨t, rfl⟩ := rx
    cases y with
    | non => cases ry; exact PySem.EqNone.eq_int_none (fin_bl I q (by simp))
    | int j => obtain ⟨t', rfl⟩ := ry; exact eq_int (fin_bl I q dec_int)
    | str j => obtain ⟨t', rfl⟩ := ry; exact PySem.EqMixed.eq_int_str (fin_bl I q (by simp))
    | _ => exact absurd (show false = true from hs) Bool.false_ne_true
  | str i =>
    obtain ⟨t, rfl⟩ := rx
    cases y with
    | non => cases ry; exact PySem.EqNone.eq_str_none (fin_bl I q (by simp))
    | bl j => cases ry; exact PySem.EqMixed.eq_str_bool (fin_bl I q (by simp))
    | int j => obtain ⟨t', rfl⟩ := ry; exact PySem.EqMixed.eq_str_int (fin_bl I q (by simp))
    | str j => obtain ⟨t', rfl⟩ := ry; exact eq_str (fin_bl I q dec_str)
    | _ => exact absurd (show false = true from hs) Bool.false_ne_true
  | byt i =>
    obtain ⟨t, rfl⟩ := rx
    cases y with
    | byt j => obtain ⟨t', rfl⟩ := ry; exact PySem.W.eq_bytes (fin_bl I q dec_byt)
    | _ => exact absurd (show false = true from hs) Bool.false_ne_true
  | _ => cases y <;> exact absurd (show false = true from hs) Bool.false_ne_true
theorem op_ne : OpR X (compareOp .NotEq) rNe := by
  intro pins s σ H x y v u Q I rx ry h
  obtain ⟨hs, q⟩ := h
  cases x with
  | non =>
    cases rx
    cases y with
    | non => cases ry; exact PySem.EqNone.ne_none_none (fin_bl I q (by simp))
    | bl j => cases ry; exact PySem.EqNone.ne_none_bool (fin_bl I q (by simp))
    | int j => obtain ⟨t', rfl⟩ := ry; exact PySem.EqNone.ne_none_int (fin_bl I q (by simp))
    | str j => obtain ⟨t', rfl⟩ := ry; exact PySem.EqNone.ne_none_str (fin_bl I q (by simp))
    | _ => exact absurd (show false = true from hs) Bool.false_ne_true
  | bl i =>
    cases rx
    cases y with
    | non => cases ry; exact PySem.EqNone.ne_bool_none (fin_bl I q (by simp))
    | bl j => cases ry; exact ne_bool (fin_bl I q (congrArg not dec_bl))
    | str j => obtain ⟨t', rfl⟩ := ry; exact PySem.EqMixed.ne_bool_str (fin_bl I q (by simp))
    | _ => exact absurd (show false = true from hs) Bool.false_ne_true
  | int i =>
    obtain ⟨t, rfl⟩ := rx
    cases y with
    | non => cases ry; exact PySem.EqNone.ne_int_none (fin_bl I q (by simp))
    | int j => obtain ⟨t', rfl⟩ := ry; exact ne_int (fin_bl I q (congrArg not dec_int))
    | str j => obtain ⟨t', rfl⟩ := ry; exact PySem.EqMixed.ne_int_str (fin_bl I q (by simp))
    | _ => exact absurd (show false = true from hs) Bool.false_ne_true
  | str i =>
    obtain ⟨t, rfl⟩ := rx
    cases y with
    | non => cases ry; exact PySem.EqNone.ne_str_none (fin_bl I q (by simp))
    | bl j => cases ry; exact PySem.EqMixed.ne_str_bool (fin_bl I q (by simp))
    | int j => obtain ⟨t', rfl⟩ := ry; exact PySem.EqMixed.ne_str_int (fin_bl I q (by simp))
    | str j => obtain ⟨t', rfl⟩ := ry; exact ne_str (fin_bl I q (congrArg not dec_str))
    | _ => exact absurd (show false = true from hs) Bool.false_ne_true
  | byt i =>
    obtain ⟨t, rfl⟩ := rx
    cases y with
    | byt j => obtain ⟨t', rfl⟩ := ry; exact PySem.W.ne_bytes (fin_bl I q (congrArg not dec_byt))
    | _ => exact absurd (show false = true from hs) Bool.false_ne_true
  | _ => cases y <;> exact absurd (show false = true from hs) Bool.false_ne_true

theorem op_lt : OpR X (compareOp .Lt) (rI0 fun i j => .bl (decide (i < j))) := opB0 fun _ _ _ _ _ _ _ q => lt_int q
theorem op_le : OpR X (compareOp .LtE) (rI0 fun i j => .bl (decide (i ≤ j))) := opB0 fun _ _ _ _ _ _ _ q => le_int q
theorem op_gt : OpR X (compareOp .Gt) (rI0 fun i j => .bl (decide (j < i))) := opB0 fun _ _ _ _ _ _ _ q => gt_int q
theorem op_ge : OpR X (compareOp .GtE) (rI0 fun i j => .bl (decide (j ≤ i))) := opB0 fun _ _ _ _ _ _ _ q => ge_int q
theorem op_lt_str : OpR X (compareOp .Lt) (fun x y H Q => ∃ i j, x = .str i ∧ y = .str j ∧ Q (.bl (decide (i.cps.toList < j.cps.toList))) H) := by
  intro pins s σ H x y v u Q I rx ry h
  obtain ⟨i, j, rfl, rfl, q⟩ := h
  obtain ⟨t, rfl⟩ := rx
  obtain ⟨t', rfl⟩ := ry
  exact lt_str (fin_bl I q rfl)
/-- the one string within the other -/
theorem op_in_str : OpR X (compareOp .In) (fun x y H Q => ∃ i j, x = .str i ∧ y = .str j ∧ Q (.bl (!(Builtin.Str.occurrences j i 0 j.length 1).isEmpty)) H) := by
  intro pins s σ H x y v u Q I rx ry h
  obtain ⟨i, j, rfl, rfl, q⟩ := h
  obtain ⟨t, rfl⟩ := rx
  obtain ⟨t', rfl⟩ := ry
  exact in_str (fin_bl I q rfl)

/-- is None, is not None: the right side a value none -/
theorem op_isN : OpR X (compareOp .Is) (fun x y H Q => y = .non ∧ Q (.bl (decide (x = .non))) H) := by
  intro pins s σ H x y v u Q I rx ry h
  obtain ⟨rfl, q⟩ := h
  cases ry
  refine is_none_gen (fin_bl I q ?_)
  cases x <;> first
    | (cases rx; rfl)
    | (obtain ⟨t, rfl⟩ := rx; rfl)
theorem op_notN : OpR X (compareOp .IsNot) (fun x y H Q => y = .non ∧ Q (.bl (!decide (x = .non))) H) := by
  intro pins s σ H x y v u Q I rx ry h
  obtain ⟨rfl, q⟩ := h
  cases ry
  refine isnot_none_gen (fin_bl I q ?_)
  cases x <;> first
    | (cases rx; rfl)
    | (obtain ⟨t, rfl⟩ := rx; rfl)

theorem op_notin_str : OpR X (compareOp .NotIn) (fun x y H Q => ∃ i j, x = .str i ∧ y = .str j ∧ Q (.bl (!(!(Builtin.Str.occurrences j i 0 j.length 1).isEmpty))) H) := by
  intro pins s σ H x y v u Q I rx ry h
  obtain ⟨i, j, rfl, rfl, q⟩ := h
  obtain ⟨t, rfl⟩ := rx
  obtain ⟨t', rfl⟩ := ry
  exact notIn_str (fin_bl I q rfl)
/-- is, is not of two objects that are tracked lists or instances -/
def isObj : HO → Bool
  | .lst _ => true
  | .ins _ _ _ => true
  | _ => false
theorem obj_there {pins : List (Addr × Obj)} {s : Shared} {σ : St} {H : Hp} {a : Addr} {o : HO} (I : Inv X pins σ H s) (h : H a = some o) (p : isObj o = true) : ∃ ob, s.heap.get? a = some ob ∧ ob.cls ≠ .type "tuple" := by
  cases o with
  | lst xs =>
    obtain ⟨_, its, n, _, e⟩ : xs.length ≤ sizeLine ∧ ∃ (its : List Value) (n : Nat), Vals xs its ∧ s.heap.get? a = some { cls := .type "list", data := .seq its.toArray n } := I.hok a _ h
    exact ⟨_, e, (by show Value.type "list" ≠ .type "tuple"; decide +kernel)⟩
  | ins C dx fs =>
    have x := I.hok a _ h
    obtain ⟨_, _, _, e, _⟩ := x
    exact ⟨_, e, (by show Value.ref C ≠ .type "tuple"; exact fun z => by cases z)⟩
  | _ => exact absurd (show false = true from p) Bool.false_ne_true
theorem op_is_ref : OpR X (compareOp .Is) (fun x y H Q => ∃ a b oa ob, x = .ref a ∧ y = .ref b ∧ H a = some oa ∧ isObj oa = true ∧ H b = some ob ∧ isObj ob = true ∧ Q (.bl (decide (a = b))) H) := by
  intro pins s σ H x y v u Q I rx ry h
  obtain ⟨a, b, oa, ob, rfl, rfl, ha, pa, hb, pb, q⟩ := h
  cases rx
  cases ry
  obtain ⟨o1, e1, n1⟩ := obj_there I ha pa
  obtain ⟨o2, e2, _⟩ := obj_there I hb pb
  by_cases z : a = b
  · subst z
    exact wpAny_is_ref_self (fin_bl I q (by simp))
  · exact wpAny_is_ref_other z e1 e2 n1 (fin_bl I q (by simp [z]))
theorem op_isnot_ref : OpR X (compareOp .IsNot) (fun x y H Q => ∃ a b oa ob, x = .ref a ∧ y = .ref b ∧ H a = some oa ∧ isObj oa = true ∧ H b = some ob ∧ isObj ob = true ∧ Q (.bl (!decide (a = b))) H) := by
  intro pins s σ H x y v u Q I rx ry h
  obtain ⟨a, b, oa, ob, rfl, rfl, ha, pa, hb, pb, q⟩ := h
  cases rx
  cases ry
  obtain ⟨o1, e1, n1⟩ := obj_there I ha pa
  obtain ⟨o2, e2, _⟩ := obj_there I hb pb
  by_cases z : a = b
  · subst z
    exact wpAny_isNot_ref_self (fin_bl I q (by simp))
  · exact wpAny_isNot_ref_other z e1 e2 n1 (fin_bl I q (by simp [z]))

/-- two rules for one operation: by cases -/
theorem OpR.or {f : Value → Value → Sem Value} {r r' : R2} (h : OpR X f r) (h' : OpR X f r') : OpR X f (fun x y H Q => r x y H Q ∨ r' x y H Q) := by
  intro pins s σ H x y v u Q I rx ry q
  rcases q with q | q
  · exact h pins s σ H x y v u Q I rx ry q
  · exact h' pins s σ H x y v u Q I rx ry q

theorem nomark (b : Expr) {op : CmpOp} (h : op ≠ .In := by decide) (h2 : op ≠ .NotIn := by decide) : behindInMarks op b = false := by
  have e1 : (op == CmpOp.In) = false := by cases op <;> first | rfl | exact absurd rfl h
  have e2 : (op == CmpOp.NotIn) = false := by cases op <;> first | rfl | exact absurd rfl h2
  cases b <;> simp [behindInMarks, e1, e2]
/-- a comparison as a value; hm: nomark b, or (for in, not in) by with_unfolding_all rfl -/
theorem pe_cmpR {op : CmpOp} {r : R2} (ho : OpR X (compareOp op) r) (ha : PE X a ta) (hb : PE X b tb) (hm : behindInMarks op b = false) : PE X (.Compare a [op] [b] pos) (tOp r ta tb) := by
  intro pins s σ H Q I h
  exact wpAny_Compare1 (binT ha hb I h fun v u s2 x y H2 I2 rx ry q => ho pins s2 σ H2 x y v u Q I2 rx ry q) hm
/-- a reading of a value as a test -/
def tTest (t : TE) : TT := fun σ H Q => t σ H fun x H' => ∃ k, x = .bl k ∧ Q k H'
theorem pt_cmpR {op : CmpOp} {r : R2} (ho : OpR X (compareOp op) r) (ha : PE X a ta) (hb : PE X b tb) (hm : behindInMarks op b = false) : PT X (.Compare a [op] [b] pos) (tTest (tOp r ta tb)) := by
  intro pins s σ H Q I h
  refine wpAny_isTrue_Compare1 (thn (ha pins s σ H _ I h) fun v s1 ⟨x, H1, I1, r1, q1⟩ => thn (hb pins s1 σ H1 _ I1 q1) fun u s2 ⟨y, H2, I2, r2, q2⟩ =>
    thn (ho pins s2 σ H2 x y v u _ I2 r1 r2 q2) fun c s3 ⟨z, H3, I3, r3, k, e, q3⟩ => ?_) hm
  subst e
  cases r3
  exact wpAny_truthy_bool ⟨H3, I3, q3⟩
/-- a op1 b op2 c -/
def tChain (r r' : R2) (ta tb tc : TE) : TE := fun σ H Q => ta σ H fun x H1 => tb σ H1 fun y H2 => r x y H2 fun z H3 => ∃ k, z = .bl k ∧
  (if k = true then tc σ H3 fun w' H4 => r' y w' H4 Q else Q (.bl false) H3)
theorem pe_chain {op op' : CmpOp} {r r' : R2} (ho : OpR X (compareOp op) r) (ho' : OpR X (compareOp op') r') (ha : PE X a ta) (hb : PE X b tb) (hc : PE X c tc)
    (hm : lastMarks [op, op'] [b, c] = false := by with_unfolding_all rfl) : PE X (.Compare a [op, op'] [b, c] pos) (tChain r r' ta tb tc) := by
  intro pins s σ H Q I h
  refine Compare_chain (thn (ha pins s σ H _ I h) fun v s1 ⟨x, H1, I1, r1, q1⟩ => chain_link (thn (hb pins s1 σ H1 _ I1 q1) fun u s2 ⟨y, H2, I2, r2, q2⟩ =>
    thn (ho pins s2 σ H2 x y v u _ I2 r1 r2 q2) fun d s3 ⟨z, H3, I3, r3, k, e, q3⟩ => ?_)) hm
  subst e
  cases r3
  refine wpAny_truthy_bool ?_
  cases k with
  | false => exact ite_ff ⟨.bl false, H3, I3, rfl, q3⟩
  | true => exact ite_tt (chain_last (thn (hc pins s3 σ H3 _ I3 q3) fun w' s4 ⟨z', H4, I4, r4, q4⟩ => ho' pins s4 σ H4 y z' u w' Q I4 r2 r4 q4))
theorem pt_chain {op op' : CmpOp} {r r' : R2} (ho : OpR X (compareOp op) r) (ho' : OpR X (compareOp op') r') (ha : PE X a ta) (hb : PE X b tb) (hc : PE X c tc)
    (hm : lastMarks [op, op'] [b, c] = false := by with_unfolding_all rfl) : PT X (.Compare a [op, op'] [b, c] pos) (tTest (tChain r r' ta tb tc)) := by
  intro pins s σ H Q I h
  refine isTrue_chain (thn (ha pins s σ H _ I h) fun v s1 ⟨x, H1, I1, r1, q1⟩ => test_link (thn (hb pins s1 σ H1 _ I1 q1) fun u s2 ⟨y, H2, I2, r2, q2⟩ =>
    thn (ho pins s2 σ H2 x y v u _ I2 r1 r2 q2) fun d s3 ⟨z, H3, I3, r3, k, e, q3⟩ => ?_)) hm
  subst e
  cases r3
  refine wpAny_truthy_bool ?_
  cases k with
  | false =>
    obtain ⟨k', e', q'⟩ := q3
    cases e'
    exact ite_ff ⟨H3, I3, q'⟩
  | true =>
    refine ite_tt (test_last (thn (hc pins s3 σ H3 _ I3 q3) fun w' s4 ⟨z', H4, I4, r4, q4⟩ => thn (ho' pins s4 σ H4 y z' u w' _ I4 r2 r4 q4) fun d' s5 ⟨z2, H5, I5, r5, k2, e2, q5⟩ => ?_))
    subst e2
    cases r5
    exact wpAny_truthy_bool ⟨H5, I5, q5⟩

/-! ### truth -/
/-- a value's truth by the abstract heap -/
def TruV (K : PySem.W.Frag) (x : V) (H : Hp) (k : Bool) : Prop :=
  match x with
  | .non => k = false
  | .bl b => k = b
  | .int i => k = (i != 0)
  | .str y => y.length ≤ sizeLine ∧ k = ((y.length : Int) != 0)
  | .byt y => y.size ≤ sizeLine ∧ k = ((y.size : Int) != 0)
  | .ref p => (∃ xs, SqL K H p xs ∧ k = !xs.isEmpty) ∨ (∃ xs, SqT K H p xs ∧ k = !xs.isEmpty) ∨ ∃ kvs, H p = some (.dK kvs) ∧ k = !kvs.isEmpty
  | _ => False
theorem isEmpty_kv {κ : Type} {kvs : List (κ × V)} {vs : List (κ × Value)} (r : KV kvs vs) : (!vs.isEmpty) = !kvs.isEmpty := by
  cases r <;> rfl
theorem isEmpty_of {xs : List V} {its : List Value} (r : Vals xs its) : (!its.toArray.isEmpty) = !xs.isEmpty := by
  cases r <;> simp
theorem line63 : (sizeLine : Nat) < 2 ^ 63 := by rw [sizeLine_eq]; decide
theorem tru_ok : TruR X (fun x H Q => ∃ k, TruV X.K x H k ∧ Q k H) := by
  intro pins s σ H x v Q I rx h
  obtain ⟨k, e, q⟩ := h
  have hl := line63
  have hs : sizeLine = 16777216 := sizeLine_eq
  cases x with
  | non =>
    cases rx
    have e' : k = false := e
    subst e'
    exact truthy_none ⟨H, I, q⟩
  | bl b =>
    cases rx
    have e' : k = b := e
    subst e'
    exact wpAny_truthy_bool ⟨H, I, q⟩
  | int i =>
    obtain ⟨t, rfl⟩ := rx
    have e' : k = (i != 0) := e
    subst e'
    exact PySem.P.truthy_int ⟨H, I, q⟩
  | str y =>
    obtain ⟨t, rfl⟩ := rx
    obtain ⟨hy, e'⟩ : y.length ≤ sizeLine ∧ k = ((y.length : Int) != 0) := e
    subst e'
    exact PySem.P.truthy_str (by omega) ⟨H, I.tok _, q⟩
  | byt y =>
    obtain ⟨t, rfl⟩ := rx
    obtain ⟨hy, e'⟩ : y.size ≤ sizeLine ∧ k = ((y.size : Int) != 0) := e
    subst e'
    exact PySem.W.truthy_bytes (by omega) ⟨H, I.tok _, q⟩
  | ref p =>
    cases rx
    have e' : (∃ xs, SqL X.K H p xs ∧ k = !xs.isEmpty) ∨ (∃ xs, SqT X.K H p xs ∧ k = !xs.isEmpty) ∨ ∃ kvs, H p = some (.dK kvs) ∧ k = !kvs.isEmpty := e
    rcases e' with ⟨xs, hx, e'⟩ | ⟨xs, hx, e'⟩ | ⟨kvs, hx, e'⟩
    · subst e'
      obtain ⟨its, r, pl, hz⟩ := I.list hx
      have hlen := r.length
      exact wpAny_truthy_list pl.isList (by simp only [List.size_toArray]; omega) ⟨H, I.tok _, by rw [isEmpty_of r]; exact q⟩
    · subst e'
      obtain ⟨its, r, pl, hz⟩ := I.tuple hx
      have hlen := r.length
      exact truthy_tuple pl (by simp only [List.size_toArray]; omega) ⟨H, I.tok _, by rw [isEmpty_of r]; exact q⟩
    · subst e'
      obtain ⟨hz, hS, vs, r, m⟩ : kvs.length ≤ sizeLine ∧ (p == sysModules) = false ∧ ∃ vs, KV kvs vs ∧ s.heap.DictOf (mixKind X.prog X.w) p vs := I.hok p _ hx
      have hlen : kvs.length = vs.length := Paired.length r
      exact wpAny_truthy_dict hS m (by omega) ⟨H, I.tok _, by rw [isEmpty_kv r]; exact q⟩
  | _ => exact (show False from e).elim
/-- any expression whose test is its value's truth (a name, a call, a subscript, a field ..: he by fun _ => rfl) -/
theorem pt_truth (ha : PE X a ta) (he : ∀ whole, isTrue a X.env whole = (do let v ← whole; standAt a.pos; holding [v] (truthy v))) :
    PT X a (fun σ H Q => ta σ H fun x H' => ∃ k, TruV X.K x H' k ∧ Q k H') := by
  intro pins s σ H Q I h
  exact isTrue_plain (thn (ha pins s σ H _ I h) fun v s1 ⟨x, H1, I1, r1, q1⟩ => tru_ok pins s1 σ H1 x v Q I1 r1 q1) (he _)

/-! ### strs and bytes -/
theorem pe_byt {x : List UInt8} {k : Nat} : PE X (.Constant (.bytes x) k pos) (fun _ H Q => Q (.byt x.toArray) H) := fun _ _ _ H _ I h => PySem.W.Constant_bytes ⟨.byt x.toArray, H, I.tok _, ⟨_, rfl⟩, h⟩
theorem op_add_str : OpR X (binaryOp .Add) (fun x y H Q => ∃ i j, x = .str i ∧ y = .str j ∧ i.length + j.length ≤ sizeLine ∧ Q (.str (i ++ j)) H) := by
  intro pins s σ H x y v u Q I rx ry h
  obtain ⟨i, j, rfl, rfl, hz, q⟩ := h
  obtain ⟨t, rfl⟩ := rx
  obtain ⟨t', rfl⟩ := ry
  exact add_str (fun t' tk => ⟨.str (i ++ j), H, I.tok _, ⟨_, rfl⟩, q⟩) hz
theorem iop_add_str : OpR X (inplaceOp .Add) (fun x y H Q => ∃ i j, x = .str i ∧ y = .str j ∧ i.length + j.length ≤ sizeLine ∧ Q (.str (i ++ j)) H) := by
  intro pins s σ H x y v u Q I rx ry h
  obtain ⟨i, j, rfl, rfl, hz, q⟩ := h
  obtain ⟨t, rfl⟩ := rx
  obtain ⟨t', rfl⟩ := ry
  exact iadd_str (fun t' tk => ⟨.str (i ++ j), H, I.tok _, ⟨_, rfl⟩, q⟩) hz
theorem op_add_byt : OpR X (binaryOp .Add) (fun x y H Q => ∃ i j, x = .byt i ∧ y = .byt j ∧ i.size + j.size ≤ 16777216 ∧ Q (.byt (i ++ j)) H) := by
  intro pins s σ H x y v u Q I rx ry h
  obtain ⟨i, j, rfl, rfl, hz, q⟩ := h
  obtain ⟨t, rfl⟩ := rx
  obtain ⟨t', rfl⟩ := ry
  exact PySem.W.KBy.add_bytes hz (fun t' tk => ⟨.byt (i ++ j), H, I.tok _, ⟨_, rfl⟩, q⟩)

def PlainIxT (b : Expr) : Prop := ∀ o i, subscripted b false o i = operate [o, i] (getItem o i)
/-- s[i], 0 ≤ i < len -/
theorem pe_item_str (ha : PE X a ta) (hb : PE X b tb) (hs : PlainIxT b) :
    PE X (.Subscript a b pos) (tOp (fun x y H Q => ∃ z i c, x = .str z ∧ y = .int i ∧ 0 ≤ i ∧ i < 2 ^ 63 ∧ i < z.length ∧ z.cps[i.toNat]? = some c ∧ Q (.str ⟨#[c]⟩) H) ta tb) := by
  intro pins s σ H Q I h
  refine Subscript_ (binT ha hb I h fun v u s2 x y H2 I2 rx ry q => ?_)
  obtain ⟨z, i, c, rfl, rfl, h0, h63, h1, hc, q⟩ := q
  obtain ⟨t, rfl⟩ := rx
  obtain ⟨t', rfl⟩ := ry
  have e : seqIndex? i z.length = some i.toNat := PySem.StrLaws.seqIndex_nonneg h0 h1
  exact tail_any (typeIs_str s2 z t) slot_str_getitem.lookup (getItem_str (c := c) (by
    have e1 : decide (i < -(2 ^ 63 : Int)) = false := decide_eq_false (by omega)
    have e2 : decide (i ≥ 2 ^ 63) = false := decide_eq_false (by omega)
    rw [e1, e2] <;> rfl) (by rw [e]; exact hc) ⟨.str ⟨#[c]⟩, H2, I2.tok _, ⟨_, rfl⟩, q⟩) (hs _ _)
/-- b[i], 0 ≤ i < len -/
theorem pe_item_byt (ha : PE X a ta) (hb : PE X b tb) (hs : PlainIxT b) :
    PE X (.Subscript a b pos) (tOp (fun x y H Q => ∃ (z : List UInt8) (i : Int), x = .byt z.toArray ∧ y = .int i ∧ z.length ≤ sizeLine ∧ 0 ≤ i ∧ i < z.length ∧ Q (.int ((z.getD i.toNat 0).toNat : Nat)) H) ta tb) := by
  intro pins s σ H Q I h
  refine Subscript_ (binT ha hb I h fun v u s2 x y H2 I2 rx ry q => ?_)
  obtain ⟨z, i, rfl, rfl, hz, h0, h1, q⟩ := q
  obtain ⟨t, rfl⟩ := rx
  obtain ⟨t', rfl⟩ := ry
  have hl : sizeLine = 16777216 := sizeLine_eq
  exact tail_any (PySem.W.typeIs_bytes s2 z.toArray t) PySem.W.FB.slot_bytes_getitem.lookup (PySem.W.getItem_bytes (by omega) h0 h1 ⟨.int ((z.getD i.toNat 0).toNat : Nat), H2, I2.tok _, ⟨_, rfl⟩, q⟩) (hs _ _)

/-! ### scalar builtins, by CallR -/
theorem vals1 {x : V} {us : List Value} (r : Vals [x] us) : ∃ u, us = [u] ∧ RelV x u := by
  cases r with
  | cons r1 r2 => cases r2; exact ⟨_, rfl, r1⟩
theorem vals2 {x y : V} {us : List Value} (r : Vals [x, y] us) : ∃ u w', us = [u, w'] ∧ RelV x u ∧ RelV y w' := by
  cases r with
  | cons r1 r2 =>
    cases r2 with
    | cons r3 r4 => cases r4; exact ⟨_, _, rfl, r1, r3⟩
theorem call_abs : CallR X (.builtin "abs") (fun xs H Q => ∃ i, xs = [.int i] ∧ Q (.int (if i < 0 then -i else i)) H) := by
  intro pins s σ H xs us Q I r h
  obtain ⟨i, rfl, q⟩ := h
  obtain ⟨u, rfl, t, rfl⟩ := vals1 r
  exact call_abs_int fun u tk => ⟨.int (if i < 0 then -i else i), H, I.tok _, ⟨_, rfl⟩, q⟩
theorem call_max2 (hc : X.calm = true) : CallR X (.builtin "max") (fun xs H Q => ∃ i j, xs = [.int i, .int j] ∧ Q (.int (if j > i then j else i)) H) := by
  intro pins s σ H xs us Q I r h
  obtain ⟨i, j, rfl, q⟩ := h
  obtain ⟨u, w', rfl, ⟨t, rfl⟩, ⟨t', rfl⟩⟩ := vals2 r
  refine max_two_ints (I.ok.hd hc) fun h' tk k => ⟨_, H, I.kept k, ?_, q⟩
  by_cases hj : j > i
  · rw [if_pos hj, if_pos hj]; exact ⟨_, rfl⟩
  · rw [if_neg hj, if_neg hj]; exact ⟨_, rfl⟩
theorem call_min2 (hc : X.calm = true) : CallR X (.builtin "min") (fun xs H Q => ∃ i j, xs = [.int i, .int j] ∧ Q (.int (if j < i then j else i)) H) := by
  intro pins s σ H xs us Q I r h
  obtain ⟨i, j, rfl, q⟩ := h
  obtain ⟨u, w', rfl, ⟨t, rfl⟩, ⟨t', rfl⟩⟩ := vals2 r
  refine min_two_ints (I.ok.hd hc) fun h' tk k => ⟨_, H, I.kept k, ?_, q⟩
  by_cases hj : j < i
  · rw [if_pos hj, if_pos hj]; exact ⟨_, rfl⟩
  · rw [if_neg hj, if_neg hj]; exact ⟨_, rfl⟩
theorem call_int1 : CallR X (.type "int") (fun xs H Q => (∃ i, xs = [.int i] ∧ Q (.int i) H) ∨ ∃ k, xs = [.bl k] ∧ Q (.int (if k then 1 else 0)) H) := by
  intro pins s σ H xs us Q I r h
  rcases h with ⟨i, rfl, q⟩ | ⟨k, rfl, q⟩
  · obtain ⟨u, rfl, t, rfl⟩ := vals1 r
    exact call_int_int ⟨.int i, H, I, ⟨_, rfl⟩, q⟩
  · obtain ⟨u, rfl, r1⟩ := vals1 r
    cases r1
    exact call_int_bool ⟨.int (if k then 1 else 0), H, I.tok _, ⟨_, rfl⟩, q⟩
theorem call_bool1 : CallR X (.type "bool") (fun xs H Q => (∃ i, xs = [.int i] ∧ Q (.bl (i != 0)) H) ∨ ∃ k, xs = [.bl k] ∧ Q (.bl k) H) := by
  intro pins s σ H xs us Q I r h
  rcases h with ⟨i, rfl, q⟩ | ⟨k, rfl, q⟩
  · obtain ⟨u, rfl, t, rfl⟩ := vals1 r
    exact call_bool_int ⟨.bl (i != 0), H, I, rfl, q⟩
  · obtain ⟨u, rfl, r1⟩ := vals1 r
    cases r1
    exact call_bool_bool ⟨.bl k, H, I, rfl, q⟩
theorem call_str_int : CallR X (.type "str") (fun xs H Q => ∃ i, xs = [.int i] ∧ i.natAbs.log2 < 1920 ∧ Q (.str (toString i)) H) := by
  intro pins s σ H xs us Q I r h
  obtain ⟨i, rfl, hz, q⟩ := h
  obtain ⟨u, rfl, t, rfl⟩ := vals1 r
  exact PySem.P.str_of_int hz ⟨.str _, H, I.tok _, ⟨_, rfl⟩, q⟩
theorem call_ord : CallR X (.builtin "ord") (fun xs H Q => ∃ x, xs = [.str x] ∧ x.length = 1 ∧ Q (.int (x.cps.getD 0 0 : Nat)) H) := by
  intro pins s σ H xs us Q I r h
  obtain ⟨x, rfl, hz, q⟩ := h
  obtain ⟨u, rfl, t, rfl⟩ := vals1 r
  exact ord_of_one hz ⟨.int _, H, I.tok _, ⟨_, rfl⟩, q⟩
theorem call_chr : CallR X (.builtin "chr") (fun xs H Q => ∃ i, xs = [.int i] ∧ 0 ≤ i ∧ i ≤ 1114111 ∧ Q (.str ⟨#[i.toNat]⟩) H) := by
  intro pins s σ H xs us Q I r h
  obtain ⟨i, rfl, h0, h1, q⟩ := h
  obtain ⟨u, rfl, t, rfl⟩ := vals1 r
  exact chr_of_range h0 h1 ⟨.str _, H, I.tok _, ⟨_, rfl⟩, q⟩
/-- len of a str, a bytes, a list, a tuple -/
def LenV (K : PySem.W.Frag) (x : V) (H : Hp) (n : Nat) : Prop :=
  match x with
  | .str y => y.length ≤ sizeLine ∧ n = y.length
  | .byt y => y.size ≤ sizeLine ∧ n = y.size
  | .ref p => (∃ xs, SqL K H p xs ∧ n = xs.length) ∨ ∃ xs, SqT K H p xs ∧ n = xs.length
  | _ => False
theorem call_len : CallR X (.builtin "len") (fun xs H Q => ∃ x n, xs = [x] ∧ LenV X.K x H n ∧ Q (.int n) H) := by
  intro pins s σ H xs us Q I r h
  obtain ⟨x, n, rfl, e, q⟩ := h
  obtain ⟨u, rfl, rx⟩ := vals1 r
  have hl := line63
  have hs : sizeLine = 16777216 := sizeLine_eq
  cases x with
  | str y =>
    obtain ⟨t, rfl⟩ := rx
    obtain ⟨hy, e'⟩ : y.length ≤ sizeLine ∧ n = y.length := e
    subst e'
    exact len_str (by omega) ⟨.int _, H, I.tok _, ⟨_, rfl⟩, q⟩
  | byt y =>
    obtain ⟨t, rfl⟩ := rx
    obtain ⟨hy, e'⟩ : y.size ≤ sizeLine ∧ n = y.size := e
    subst e'
    exact PySem.W.len_bytes (by omega) ⟨.int _, H, I.tok _, ⟨_, rfl⟩, q⟩
  | ref p =>
    cases rx
    have e' : (∃ xs, SqL X.K H p xs ∧ n = xs.length) ∨ ∃ xs, SqT X.K H p xs ∧ n = xs.length := e
    rcases e' with ⟨xs, hx, e'⟩ | ⟨xs, hx, e'⟩
    · subst e'
      obtain ⟨its, r', pl, hz⟩ := I.list hx
      have hlen := r'.length
      exact Calls.call_len_list pl.isList (by simp only [List.size_toArray]; omega) ⟨.int xs.length, H, I.tok _, ⟨_, by simp only [List.size_toArray]; rw [hlen]⟩, q⟩
    · subst e'
      obtain ⟨its, r', pl, hz⟩ := I.tuple hx
      have hlen := r'.length
      exact len_tuple pl (by simp only [List.size_toArray]; omega) ⟨.int xs.length, H, I.tok _, ⟨_, by simp only [List.size_toArray]; rw [hlen]⟩, q⟩
  | _ => exact (show False from e).elim
/-- divmod: a new tuple -/
theorem call_divmod : CallR X (.builtin "divmod") (fun xs H Q => ∃ i j, xs = [.int i, .int j] ∧ CDiv i j ∧ ∀ p, H p = none → Q (.ref p) (upd H p (.tup [.int (i / j), .int (i % j)]))) := by
  intro pins s σ H xs us Q I r h
  obtain ⟨i, j, rfl, ⟨h1, h2⟩, q⟩ := h
  obtain ⟨u, w', rfl, ⟨t, rfl⟩, ⟨t', rfl⟩⟩ := vals2 r
  refine divmod_int (by omega) ?_ (.inl (PyProof.noPylong_small (by omega)))
  rw [Int.fdiv_eq_ediv_of_nonneg i (by omega), Int.fmod_eq_emod_of_nonneg i (by omega)]
  have hn : H s.heap.objs.size = none := I.hok.fresh (Nat.le_refl _)
  refine ⟨.ref s.heap.objs.size, _, ?_, rfl, q _ hn⟩
  refine I.laid (fun b o e => Heap.get?_push_of_some _ e) (Nat.le_refl _) ⟨by simp only [List.length_cons, List.length_nil]; rw [sizeLine_eq]; decide, [.int (i / j) s.toks, .int (i % j) (s.toks + 1)], .cons ⟨_, rfl⟩ (.cons ⟨_, rfl⟩ .nil), ?_⟩
  exact ⟨_, Heap.get?_push_size s.heap rfl, rfl, 0, rfl⟩
end
end L2

namespace L2
open PySem PySem.Spec PyProof.Rows

/-! ### an instance, its attributes a map -/
structure ObjM (h : Heap) (x dx C : Addr) (mA : Str → Option Value) : Prop where
  obj : h.get? x = some (PySem.W.instObj C dx)
  ns : h.Ns1 dx mA
  ne : dx ≠ x

theorem lookIn_ns {h : Heap} {dx : Addr} {mA : Str → Option Value} (n : h.Ns1 dx mA) : ∃ od, h.get? dx = some od ∧ ∀ name, PySem.W.lookIn name od = some (mA name) := by
  obtain ⟨o, es, ep, ho, hd, hk, _, hm⟩ := n
  refine ⟨o, ho, fun name => ?_⟩
  have e := hm name
  unfold nsFind findBy at e
  rw [← Array.find?_toList] at e
  unfold PySem.W.lookIn
  rw [hd]
  dsimp only
  split
  · rename_i y q
    rw [q] at e
    exact congrArg some e
  · rename_i q
    rw [q] at e
    have a : es.toList.any (·.refKey) = false := by
      rw [List.any_eq_false]
      intro y hy
      obtain ⟨z, t, hkey⟩ := hk y (Array.mem_toList_iff.mp hy)
      simp [DictEntry.refKey, hkey]
    have a' : ¬ es.toList.any (·.refKey) = true := by rw [a]; exact Bool.false_ne_true
    rw [if_neg a']
    exact congrArg some e

theorem ObjM.look {h : Heap} {x dx C : Addr} {mA : Str → Option Value} (I : ObjM h x dx C mA) : ∃ od, PySem.W.InstAt h x (PySem.W.instObj C dx) C (some od) ∧ ∀ name, PySem.W.lookIn name od = some (mA name) :=
  let ⟨od, ho, hl⟩ := lookIn_ns I.ns
  ⟨od, ⟨I.obj, rfl, rfl, ho⟩, hl⟩

section
variable {prog : Program} {w : World} {A : Around} {E : Value → Shared → Prop} {s : Shared} {K : PySem.W.Frag} {x dx C f : Addr} {mA : Str → Option Value} {name : Str} {v : Value}

theorem get_map {expr : Bool} {Q : Value → Shared → Prop} (X : K.In s.heap) (I : ObjM s.heap x dx C mA) (hg : PySem.W.plainGet K C name = true) (hh : PySem.W.hasDictIn K C = true)
    (ha : PySem.W.findIn K (.ref C) name = some none) (hv : mA name = some v) (hv' : PySem.W.handedIn v = true) (h : Q v { s with toks := s.toks + 1 }) :
    wpAny (model prog w) A (getAttr (.ref x) name expr) Q E s := by
  obtain ⟨od, J, hl⟩ := I.look
  exact PySem.W.get_value X J (PySem.W.plainGet_of hg).1 (PySem.W.findObj_own hh ha rfl (by rw [hl, hv])) hv' h

theorem get_const {expr : Bool} {a : Value} {Q : Value → Shared → Prop} (X : K.In s.heap) (I : ObjM s.heap x dx C mA) (hg : PySem.W.plainGet K C name = true) (hh : PySem.W.hasDictIn K C = true)
    (ha : PySem.W.findIn K (.ref C) name = some (some a)) (hn : PySem.W.specialIn K a "__get__" = some none) (hc : PySem.W.copiedNames.contains name = false) (hv : mA name = none) (hv' : PySem.W.handedIn a = true)
    (h : Q a { s with toks := s.toks + 1 }) : wpAny (model prog w) A (getAttr (.ref x) name expr) Q E s := by
  obtain ⟨od, J, hl⟩ := I.look
  exact PySem.W.get_value X J (PySem.W.plainGet_of hg).1 (PySem.W.findObj_cls hh ha hn hv' hc (by rw [hl, hv])) hv' h

theorem get_meth {pl : Sem Bool} {Q : Value × List Value → Shared → Prop} (X : K.In s.heap) (I : ObjM s.heap x dx C mA) (hg : PySem.W.plainGet K C name = true)
    (hf : PySem.W.findIn K (.ref C) name = some (some (.ref f))) (ht : PySem.W.isFn K (.ref f) = true) (hv : mA name = none) (h : Q (.ref f, [.ref x]) s) :
    wpAny (model prog w) A (getMethod (.ref x) name pl) Q E s := by
  obtain ⟨od, J, hl⟩ := I.look
  exact PySem.W.method_fn X J (PySem.W.plainGet_of hg).1 (PySem.W.plainGet_of hg).2 hf (beq_iff_eq.mp ht) (by show (PySem.W.lookIn name od).map (·.isSome) = some false; rw [hl, hv]; rfl) h

theorem set_map {ns : List Str} {Q : Unit → Shared → Prop} (X : K.In s.heap) (I : ObjM s.heap x dx C mA)
    (hs : PySem.W.findIn K (.ref C) "__setattr__" = some (some (.builtin "object.__setattr__"))) (hp : PySem.W.plainOver K C = true) (ht : PySem.W.takerIn K C name = some none) (hh : PySem.W.hasDictIn K C = true)
    (hw : PySem.Within mA ns) (hsz : ns.length ≤ sizeLine)
    (h : ∀ h', ObjM h' x dx C (fun y => if y = name then some v else mA y) → Heap.SameBut dx s.heap h' → Q () { s with heap := h', toks := s.toks + 2 }) :
    wpAny (model prog w) A (setAttr (.ref x) name v) Q E s := by
  obtain ⟨od, J, hl⟩ := I.look
  refine PySem.W.set_plain X J hs (PySem.W.osa_open (s := { s with toks := s.toks + 1 }) (r := none) X J hp ht fun b => ?_)
  obtain ⟨cd, hc, hd'⟩ := PySem.W.any_some hh
  have hx : s.heap.get? x = some ⟨.ref C, some dx, .plain, #[]⟩ := I.obj
  refine wpAny_bind (wpAny_pure (wpAny_bind (wpAny_bind (wpAny_loadPart hx (wpAny_bind (PySem.W.Looks.here (s := { s with toks := s.toks + 1 }) (PySem.W.looks_clsIn X hc) ?_))))))
  rw [hd']
  refine wpAny_pure (a := some dx) (wpAny_bind (wpAny_pure (wpAny_bind ?_)))
  refine wpAny_nsSet1 (s := { s with toks := s.toks + 1 }) I.ns fun h' hn2 hs2 => ?_
  obtain ⟨oD, esD, epD, hoD, hdD, hcD⟩ := hn2.count (PySem.Within.cons name v hw)
  refine wpAny_bind (wpAny_lookBehind hoD (by rw [hdD]; exact pastItsLine_dict (Nat.le_trans hcD (by rw [List.length_cons]; omega))) ?_)
  exact wpAny_pure (h _ ⟨(hs2.2 _ (Ne.symm I.ne)).trans I.obj, hn2, I.ne⟩ hs2)

/-- C(..): the dict at the heap's end, the instance behind it; then its __init__ -/
theorem make_map {R : Result → Shared → Prop} {vs : List Value} {kw : List (Str × Value)} (X : K.In s.heap) (hm : PySem.W.makesIn K C = true)
    (hi : PySem.W.findIn K (.ref C) "__init__" = some (some (.ref f))) (hf : PySem.W.typeIn K (.ref f) = some (.type "function"))
    (h : codeAny (model prog w) (A.under (.builtin "type.__call__" ⟨.ref C :: vs, kw⟩)) (.call (.ref f) ⟨.ref (s.heap.objs.size + 1) :: vs, kw⟩) (PySem.W.InitBack (s.heap.objs.size + 1) R)
      { s with heap := (s.heap.push PySem.W.emptyDict).push (PySem.W.instObj C s.heap.objs.size) }) :
    codeAny (model prog w) A (.call (.ref C) ⟨vs, kw⟩) R s := by
  obtain ⟨hh, g, d, t, os⟩ := s
  exact PySem.W.make_core (PySem.W.makes_of X hm) (PySem.W.looks_findIn X hi) (fun self => PySem.W.bind_fn X self hf) (.inl rfl) h
/-- C() where there is no __init__ but object's -/
theorem make_map0 {R : Result → Shared → Prop} (X : K.In s.heap) (hm : PySem.W.makesIn K C = true)
    (hi : PySem.W.findIn K (.ref C) "__init__" = some (some (.builtin "object.__init__")))
    (hb : ∀ self, PySem.W.Looks (model prog w) s.heap (bindSpecial (.builtin "object.__init__") self) (.builtin "object.__init__", [self]))
    (h : codeAny (model prog w) (A.under (.builtin "type.__call__" ⟨[.ref C], []⟩)) (.call (.builtin "object.__init__") ⟨[.ref (s.heap.objs.size + 1)], []⟩) (PySem.W.InitBack (s.heap.objs.size + 1) R)
      { s with heap := (s.heap.push PySem.W.emptyDict).push (PySem.W.instObj C s.heap.objs.size) }) :
    codeAny (model prog w) A (.call (.ref C) ⟨[], []⟩) R s := by
  obtain ⟨hh, g, d, t, os⟩ := s
  exact PySem.W.make_core (PySem.W.makes_of X hm) (PySem.W.looks_findIn X hi) hb (.inr ⟨rfl, rfl⟩) h
end

/-! ### the attributes as a list of pairs -/
def putF (f : Str) (v : V) : List (Str × V) → List (Str × V)
  | [] => [(f, v)]
  | (g, x) :: r => if g = f then (g, v) :: r else (g, x) :: putF f v r
theorem lookup_putF (f g : Str) (v : V) : ∀ fs : List (Str × V), (putF f v fs).lookup g = if g = f then some v else fs.lookup g
  | [] => by
    show List.lookup g [(f, v)] = _
    by_cases h : g = f
    · have hb : (g == f) = true := beq_iff_eq.mpr h
      simp only [List.lookup, hb, if_pos h]
    · have hb : (g == f) = false := beq_eq_false_iff_ne.mpr h
      simp only [List.lookup, hb, if_neg h]
  | (k, x) :: r => by
    have ih := lookup_putF f g v r
    rw [show putF f v ((k, x) :: r) = (if k = f then (k, v) :: r else (k, x) :: putF f v r) from rfl]
    by_cases hk : k = f
    · rw [if_pos hk]
      by_cases h : g = k
      · have hb : (g == k) = true := beq_iff_eq.mpr h
        simp only [List.lookup, hb, if_pos (h.trans hk)]
      · have hb : (g == k) = false := beq_eq_false_iff_ne.mpr h
        simp only [List.lookup, hb, if_neg (fun e : g = f => h (e.trans hk.symm))]
    · rw [if_neg hk]
      by_cases h : g = k
      · have hb : (g == k) = true := beq_iff_eq.mpr h
        simp only [List.lookup, hb, if_neg (fun e : g = f => hk (h.symm.trans e))]
      · have hb : (g == k) = false := beq_eq_false_iff_ne.mpr h
        simp only [List.lookup, hb]
        exact ih
theorem keys_putF (f : Str) (v : V) : ∀ fs : List (Str × V), f ∈ (putF f v fs).map (·.1) ∧ ∀ g, g ∈ fs.map (·.1) → g ∈ (putF f v fs).map (·.1)
  | [] => ⟨by simp [putF], fun g h => by simp at h⟩
  | (k, x) :: r => by
    obtain ⟨i1, i2⟩ := keys_putF f v r
    rw [show putF f v ((k, x) :: r) = (if k = f then (k, v) :: r else (k, x) :: putF f v r) from rfl]
    by_cases hk : k = f
    · rw [if_pos hk]
      subst hk
      exact ⟨by simp, fun g h => by simpa using h⟩
    · rw [if_neg hk]
      refine ⟨?_, fun g h => ?_⟩
      · rw [List.map_cons]
        exact List.mem_cons_of_mem _ i1
      · rw [List.map_cons] at h ⊢
        rcases List.mem_cons.mp h with e | e
        · exact List.mem_cons.mpr (.inl e)
        · exact List.mem_cons_of_mem _ (i2 g e)
theorem length_putF (f : Str) (v : V) : ∀ fs : List (Str × V), (putF f v fs).length ≤ fs.length + 1
  | [] => by simp [putF]
  | (k, x) :: r => by
    have ih := length_putF f v r
    rw [show putF f v ((k, x) :: r) = (if k = f then (k, v) :: r else (k, x) :: putF f v r) from rfl]
    by_cases hk : k = f
    · rw [if_pos hk, List.length_cons, List.length_cons]; omega
    · rw [if_neg hk, List.length_cons, List.length_cons]; omega

theorem RelO.some_of {v : V} {o : Option Value} (r : RelO (some v) o) : ∃ u, o = some u ∧ RelV v u := by
  cases o with
  | none => exact (show False from r).elim
  | some u => exact ⟨u, rfl, r⟩
theorem RelO.none_of {o : Option Value} (r : RelO none o) : o = none := by
  cases o with
  | none => rfl
  | some u => exact (show False from r).elim
theorem handed_of {v : V} {u : Value} (r : RelV v u) : PySem.W.handedIn u = true := by
  cases v with
  | non => cases (show u = Value.none from r); rfl
  | bl b => cases (show u = Value.bool b from r); rfl
  | int i => obtain ⟨t, e⟩ := (show ∃ t, u = Value.int i t from r); cases e; rfl
  | str x => obtain ⟨t, e⟩ := (show ∃ t, u = Value.str x t from r); cases e; rfl
  | byt b => obtain ⟨t, e⟩ := (show ∃ t, u = Value.bytes b t from r); cases e; rfl
  | flt b => obtain ⟨t, e⟩ := (show ∃ t, u = Value.float b t from r); cases e; rfl
  | ref a => cases (show u = Value.ref a from r); rfl
  | ty n => cases (show u = Value.type n from r); rfl

section
variable {P : Program} {w : World} {H H' : Hp} {h h' : Heap} {a C dx : Addr} {fs fs' : List (Str × V)}
theorem ins_get (hok : HOk P w H h) (e : H a = some (.ins C dx fs)) : ∃ mA, ObjM h a dx C mA ∧ (∀ f, RelO (fs.lookup f) (mA f)) ∧ PySem.Within mA (fs.map (·.1)) ∧ fs.length ≤ 1000 ∧ H dx = some (.own a) := by
  obtain ⟨d, z, ne, ob, mA, n, r, q⟩ := (show ObjOk P w H h a (.ins C dx fs) from hok a _ e)
  exact ⟨mA, ⟨ob, n, ne⟩, r, q, z, d⟩
end

/-! ### what of the text a class must have -/
structure Cls (K : PySem.W.Frag) (C : Addr) : Prop where
  pg : PySem.W.plainGet K C Str.empty = true
  hd : PySem.W.hasDictIn K C = true
  po : PySem.W.plainOver K C = true
  sa : PySem.W.findIn K (.ref C) "__setattr__" = some (some (.builtin "object.__setattr__"))
theorem Cls.get {K : PySem.W.Frag} {C : Addr} (c : Cls K C) (f : Str) : PySem.W.plainGet K C f = true := c.pg
/-- no class of it has the name -/
def NoAttr (K : PySem.W.Frag) (C : Addr) (f : Str) : Prop := PySem.W.findIn K (.ref C) f = some none
theorem NoAttr.taker {K : PySem.W.Frag} {C : Addr} {f : Str} (n : NoAttr K C f) : PySem.W.takerIn K C f = some none := by
  unfold PySem.W.takerIn
  rw [show PySem.W.findIn K (.ref C) f = some none from n]
  rfl
/-- a constant of the class -/
structure Con (K : PySem.W.Frag) (C : Addr) (f : Str) (v : V) (u : Value) : Prop where
  at_ : PySem.W.findIn K (.ref C) f = some (some u)
  rel : RelV v u
  get : PySem.W.specialIn K u "__get__" = some none
  cp : PySem.W.copiedNames.contains f = false
/-- a method: a plain def of the class or of one above it -/
structure Meth (K : PySem.W.Frag) (C : Addr) (m : Str) (f : Addr) : Prop where
  at_ : PySem.W.findIn K (.ref C) m = some (some (.ref f))
  fn : PySem.W.isFn K (.ref f) = true
  kp : PySem.W.keepIn K (.ref f) = true

section
variable {X : Cx} {pins : List (Addr × Obj)} {σ : St} {H : Hp} {s : Shared} {a C dx : Addr} {fs : List (Str × V)} {f : Str} {v : V} {A : Around} {E : Value → Shared → Prop}

theorem getattr_ok {b : Bool} {Q : Value → Shared → Prop} (I : Inv X pins σ H s) (e : H a = some (.ins C dx fs)) (c : Cls X.K C) (n : NoAttr X.K C f) (l : fs.lookup f = some v)
    (h : ∀ u s', Inv X pins σ H s' → RelV v u → Q u s') : wpAny (model X.prog X.w) A (getAttr (.ref a) f b) Q E s := by
  obtain ⟨mA, O, r, _, _, _⟩ := ins_get I.hok e
  obtain ⟨u, hu, ru⟩ := RelO.some_of (v := v) (o := mA f) (by rw [← l]; exact r f)
  exact get_map I.kIn O (c.get f) c.hd n hu (handed_of ru) (h u _ (I.tok _) ru)

theorem getcon_ok {b : Bool} {u : Value} {Q : Value → Shared → Prop} (I : Inv X pins σ H s) (e : H a = some (.ins C dx fs)) (c : Cls X.K C) (k : Con X.K C f v u) (l : fs.lookup f = none)
    (h : ∀ s', Inv X pins σ H s' → Q u s') : wpAny (model X.prog X.w) A (getAttr (.ref a) f b) Q E s := by
  obtain ⟨mA, O, r, _, _, _⟩ := ins_get I.hok e
  have hn : mA f = none := RelO.none_of (by rw [← l]; exact r f)
  exact get_const I.kIn O (c.get f) c.hd k.at_ k.get k.cp hn (handed_of k.rel) (h _ (I.tok _))

theorem getmeth_ok {m : Str} {g : Addr} {pl : Sem Bool} {Q : Value × List Value → Shared → Prop} (I : Inv X pins σ H s) (e : H a = some (.ins C dx fs)) (c : Cls X.K C) (k : Meth X.K C m g) (l : fs.lookup m = none)
    (h : Q (.ref g, [.ref a]) s) : wpAny (model X.prog X.w) A (getMethod (.ref a) m pl) Q E s := by
  obtain ⟨mA, O, r, _, _, _⟩ := ins_get I.hok e
  have hn : mA m = none := RelO.none_of (by rw [← l]; exact r m)
  exact get_meth I.kIn O (c.get m) k.at_ k.fn hn h

theorem setattr_ok {y : V} {u : Value} {Q : Unit → Shared → Prop} (I : Inv X pins σ H s) (e : H a = some (.ins C dx fs)) (c : Cls X.K C) (n : NoAttr X.K C f) (hl : fs.length < 1000) (ry : RelV y u)
    (h : ∀ s', Inv X pins σ (upd H a (.ins C dx (putF f y fs))) s' → Q () s') : wpAny (model X.prog X.w) A (setAttr (.ref a) f u) Q E s := by
  obtain ⟨mA, O, r, wi, _, ho⟩ := ins_get I.hok e
  have hz : (fs.map (·.1)).length ≤ sizeLine := by rw [List.length_map, sizeLine_eq]; omega
  refine set_map I.kIn O c.sa c.po n.taker c.hd wi hz fun h' O' sb => h _ ?_
  have hd : ∃ o, h'.get? dx = some o := let ⟨o, _, _, e', _⟩ := O'.ns; ⟨o, e'⟩
  refine I.write (x := a) (e := dx) (by rw [e]; exact True.intro) (.inr ho) (fun b q hb z => (sb.2 b hb).trans z) hd ?_
  refine ⟨by rw [upd_ne O.ne]; exact ho, ?_, O.ne, O'.obj, _, O'.ns, fun g => ?_, fun g hg => ?_⟩
  · have := length_putF f y fs; omega
  · show RelO ((putF f y fs).lookup g) (if g = f then some u else mA g)
    rw [lookup_putF]
    by_cases q : g = f
    · rw [if_pos q, if_pos q]; exact ry
    · rw [if_neg q, if_neg q]; exact r g
  · by_cases q : g = f
    · rw [q]; exact (keys_putF f y fs).1
    · refine (keys_putF f y fs).2 g (wi g fun z => hg ?_)
      show (if g = f then some u else mA g) = none
      rw [if_neg q]; exact z

/-- a new instance, tracked, without attributes -/
theorem Inv.made (I : Inv X pins σ H s) : Inv X pins σ (upd (upd H s.heap.objs.size (.own (s.heap.objs.size + 1))) (s.heap.objs.size + 1) (.ins C s.heap.objs.size []))
    { s with heap := (s.heap.push PySem.W.emptyDict).push (PySem.W.instObj C s.heap.objs.size) } := by
  have e1 : (s.heap.push PySem.W.emptyDict).get? s.heap.objs.size = some PySem.W.emptyDict := Heap.get?_push_size s.heap rfl
  have e2 : ((s.heap.push PySem.W.emptyDict).push (PySem.W.instObj C s.heap.objs.size)).get? (s.heap.objs.size + 1) = some (PySem.W.instObj C s.heap.objs.size) := by
    have := Heap.get?_push_size (s.heap.push PySem.W.emptyDict) (o := PySem.W.instObj C s.heap.objs.size) rfl
    rwa [Heap.size_push] at this
  have e3 : (s.heap.push PySem.W.emptyDict).Ns s.heap.objs.size (fun _ => none) := ⟨PySem.W.emptyDict, #[], _, e1, rfl, (fun e he => absurd he (by simp)), fun _ => rfl⟩
  have I1 := I.laid (a := s.heap.objs.size) (o := .own (s.heap.objs.size + 1)) (h' := s.heap.push PySem.W.emptyDict) (t' := s.toks) (fun b u q => Heap.get?_push_of_some _ q) (Nat.le_refl _) ⟨_, e1⟩
  refine I1.laid (a := s.heap.objs.size + 1) (o := .ins C s.heap.objs.size []) (t' := s.toks) (fun b u q => Heap.get?_push_of_some _ q) (Nat.le_of_eq (Heap.size_push _ _)) ?_
  have ne : s.heap.objs.size ≠ s.heap.objs.size + 1 := Nat.ne_of_lt (Nat.lt_succ_self _)
  refine ⟨by rw [upd_ne ne, upd_same], Nat.zero_le _, ne, e2, fun _ => none, (Heap.Ns1.of_empty e3).at fun o q => Heap.get?_push_of_some _ q, fun _ => True.intro, fun y hy => absurd rfl hy⟩

/-- e.f where nothing but the object is asked: through attributeBase (super) and the last hold -/
theorem attr_of {prog : Program} {w : World} {env : Env} {e : Expr} {f : Str} {pos : Pos} {s : Shared} {Q : Value → Shared → Prop} (hb : attributeBase e f env (eval e env) = eval e env)
    (h : wpAny (model prog w) A (eval e env) (fun o s₁ => wpAny (model prog w) A (getAttr o f true) Q E s₁) E s) : wpAny (model prog w) A (eval (.Attribute e f pos) env) Q E s :=
  Attribute_any_ h (by rw [arm_eval_Attribute, hb])
end

/-! ### readings and rules -/
/-- e.f, an attribute of the instance -/
def tFld (K : PySem.W.Frag) (ta : TE) (f : Str) : TE := fun σ H Q => ta σ H fun x H1 => ∃ a C dx fs v, x = .ref a ∧ H1 a = some (.ins C dx fs) ∧ Cls K C ∧ NoAttr K C f ∧ fs.lookup f = some v ∧ Q v H1
/-- e.f, a constant of the class -/
def tCon (K : PySem.W.Frag) (ta : TE) (f : Str) : TE := fun σ H Q => ta σ H fun x H1 => ∃ a C dx fs v u, x = .ref a ∧ H1 a = some (.ins C dx fs) ∧ Cls K C ∧ Con K C f v u ∧ fs.lookup f = none ∧ Q v H1
/-- e.f = value -/
def sFld (K : PySem.W.Frag) (ta tv : TE) (f : Str) : TS := fun D σ H => tv σ H fun y H1 => ta σ H1 fun x H2 => ∃ a C dx fs, x = .ref a ∧ H2 a = some (.ins C dx fs) ∧ Cls K C ∧ NoAttr K C f ∧ fs.length < 1000 ∧
  D.nx σ (upd H2 a (.ins C dx (putF f y fs)))
/-- an augmented operator on two values -/
def InOp (X : Cx) (op : Operator) (rd : V → V → Hp → VK → Prop) : Prop :=
  ∀ (pins : List (Addr × Obj)) (s : Shared) (σ : St) (H : Hp) (x y : V) (u v : Value) (Q : VK), Inv X pins σ H s → RelV x u → RelV y v → rd x y H Q → wpAny (model X.prog X.w) X.A (inplaceOp op u v) (EP X pins σ Q) X.xe s
/-- e.f op= value -/
def sFldAug (K : PySem.W.Frag) (ta tv : TE) (rd : V → V → Hp → VK → Prop) (f : Str) : TS := fun D σ H => ta σ H fun x H1 => ∃ a C dx fs v, x = .ref a ∧ H1 a = some (.ins C dx fs) ∧ Cls K C ∧ NoAttr K C f ∧ fs.lookup f = some v ∧
  tv σ H1 fun y H2 => rd v y H2 fun z H3 => ∃ dx' fs', H3 a = some (.ins C dx' fs') ∧ fs'.length < 1000 ∧ D.nx σ (upd H3 a (.ins C dx' (putF f z fs')))

section
variable {X : Cx} {o e value : Expr} {f : Str} {pos pos' tpos : Pos} {ta tv : TE}
theorem pe_fld (he : PE X e ta) (hb : attributeBase e f X.env (eval e X.env) = eval e X.env) : PE X (.Attribute e f pos) (tFld X.K ta f) := by
  intro pins s σ H Q I h
  refine attr_of hb (thn (he pins s σ H _ I h) fun u s1 ⟨x, H1, I1, rx, a, C, dx, fs, v, ex, ea, c, n, l, q⟩ => ?_)
  subst ex
  obtain rfl : u = Value.ref a := rx
  exact getattr_ok I1 ea c n l fun u' s2 I2 ru => ⟨v, H1, I2, ru, q⟩
theorem pe_con (he : PE X e ta) (hb : attributeBase e f X.env (eval e X.env) = eval e X.env) : PE X (.Attribute e f pos) (tCon X.K ta f) := by
  intro pins s σ H Q I h
  refine attr_of hb (thn (he pins s σ H _ I h) fun u s1 ⟨x, H1, I1, rx, a, C, dx, fs, v, u0, ex, ea, c, k, l, q⟩ => ?_)
  subst ex
  obtain rfl : u = Value.ref a := rx
  exact getcon_ok I1 ea c k l fun s2 I2 => ⟨v, H1, I2, k.rel, q⟩
theorem ps_fld (ha : PE X o ta) (hv : PE X value tv) (hs : swapsWith value (some (.Attribute o f pos')) pos.line X.env = pure false) : PS X (.Assign [.Attribute o f pos'] value pos) (sFld X.K ta tv f) := by
  intro pins s σ H D I h
  refine plainObj_wpAny_Assign_Attribute (thn (hv pins s σ H _ I h) fun u s1 ⟨y, H1, I1, ry, q⟩ => thn (ha pins s1 σ H1 _ I1 q) fun ov s2 ⟨x, H2, I2, rx, a, C, dx, fs, ex, ea, c, n, l, q2⟩ => ?_) hs
  subst ex
  obtain rfl : ov = Value.ref a := rx
  exact setattr_ok I2 ea c n l ry fun s3 I3 => ⟨σ, _, I3, q2⟩
theorem ps_fldaug {op : Operator} {rd : V → V → Hp → VK → Prop} (ha : PE X o ta) (hv : PE X value tv) (hop : InOp X op rd) : PS X (.AugAssign (.Attribute o f tpos) op value pos) (sFldAug X.K ta tv rd f) := by
  intro pins s σ H D I h
  refine wpAny_AugAssign_AttributeAny (thn (ha pins s σ H _ I h) fun ov s1 ⟨x, H1, I1, rx, a, C, dx, fs, v, ex, ea, c, n, l, q⟩ => ?_)
  subst ex
  obtain rfl : ov = Value.ref a := rx
  refine getattr_ok I1 ea c n l fun u s2 I2 ru => thn (hv pins s2 σ H1 _ I2 q) fun w3 s3 ⟨y, H2, I3, ry, q3⟩ => thn (hop pins s3 σ H2 v y u w3 _ I3 ru ry q3) fun w4 s4 ⟨z, H3, I4, rz, dx', fs', ea', l', q4⟩ => ?_
  exact setattr_ok I4 ea' c n l' rz fun s5 I5 => ⟨σ, _, I5, q4⟩
def rAdd : V → V → Hp → VK → Prop := fun x y H Q => ∃ i j, x = .int i ∧ y = .int j ∧ Q (.int (i + j)) H
def rSub : V → V → Hp → VK → Prop := fun x y H Q => ∃ i j, x = .int i ∧ y = .int j ∧ Q (.int (i - j)) H
theorem in_add : InOp X .Add rAdd := by
  rintro pins s σ H x y u v Q I rx ry ⟨i, j, rfl, rfl, q⟩
  obtain ⟨t, rfl⟩ := (show ∃ t, u = Value.int i t from rx)
  obtain ⟨t', rfl⟩ := (show ∃ t', v = Value.int j t' from ry)
  exact PyProof.Rows.iadd_int ⟨.int (i + j), H, I.tok _, ⟨_, rfl⟩, q⟩
theorem in_sub : InOp X .Sub rSub := by
  rintro pins s σ H x y u v Q I rx ry ⟨i, j, rfl, rfl, q⟩
  obtain ⟨t, rfl⟩ := (show ∃ t, u = Value.int i t from rx)
  obtain ⟨t', rfl⟩ := (show ∃ t', v = Value.int j t' from ry)
  exact PyProof.Rows.isub_int ⟨.int (i - j), H, I.tok _, ⟨_, rfl⟩, q⟩

/-- what is between an instance and its method: the tree of a method call -/
theorem methcall_of {pl : Sem Bool} {m : Str} {apos : Pos} {args : List Expr} {pins : List (Addr × Obj)} {s : Shared} {σ : St} {H : Hp} {Q : Value → Shared → Prop} {te : TE} (he : PE X e te) (I : Inv X pins σ H s)
    (h : te σ H fun x H1 => ∃ a C dx fs g, x = .ref a ∧ H1 a = some (.ins C dx fs) ∧ Cls X.K C ∧ Meth X.K C m g ∧ fs.lookup m = none ∧
      ∀ s1, Inv X pins σ H1 s1 → wpAny (model X.prog X.w) X.A (callWith pos (.ref g) [.ref a] (backTo pos (starEach args X.env)) (backToKw pos (keywordEach [] X.env))) Q X.xe s1)
    (ht : eval (.Call (.Attribute e m apos) args [] pos) X.env = (do
      let ov ← eval e X.env
      standAt apos.atName
      let (f, first) ← holding [ov] (getMethod ov m pl)
      callWith pos f first (backTo pos (starEach args X.env)) (backToKw pos (keywordEach [] X.env)))) :
    wpAny (model X.prog X.w) X.A (eval (.Call (.Attribute e m apos) args [] pos) X.env) Q X.xe s := by
  refine PySem.W.methodCall_KW (pl := pl) (thn (he pins s σ H _ I h) fun u s1 ⟨x, H1, I1, rx, a, C, dx, fs, g, ex, ea, c, k, l, q⟩ => ?_) ht
  subst ex
  obtain rfl : u = Value.ref a := rx
  exact getmeth_ok I1 ea c k l (q s1 I1)
end

/-! ### isinstance -/
section
variable {X : Cx} {pins : List (Addr × Obj)} {σ : St} {H : Hp} {s : Shared} {A : Around} {E : Value → Shared → Prop} {Q : Value → Shared → Prop} {c : Value} {b : Bool}
/-- the type of a value, as the fragment's deciders take it; for an instance its class -/
inductive TyOf (K : PySem.W.Frag) (H : Hp) : V → Value → Prop where
  | non : TyOf K H .non (.type "NoneType")
  | bl (x : Bool) : TyOf K H (.bl x) (.type "bool")
  | int (i : Int) : TyOf K H (.int i) (.type "int")
  | str (x : Str) : TyOf K H (.str x) (.type "str")
  | flt (x : UInt64) : TyOf K H (.flt x) (.type "float")
  | lst {a : Addr} {xs : List V} (e : H a = some (.lst xs)) : TyOf K H (.ref a) (.type "list")
  | frz {a : Addr} {o : Obj} {xs : List V} (e : H a = some (.frz o (.lst xs))) : TyOf K H (.ref a) (.type "list")
  | tup {a : Addr} {xs : List V} (e : H a = some (.tup xs)) : TyOf K H (.ref a) (.type "tuple")
  | dK {a : Addr} {kvs : List (Key × V)} (e : H a = some (.dK kvs)) : TyOf K H (.ref a) (.type "dict")
  | dT {a : Addr} {kvs : List (List Key × V)} (e : H a = some (.dT kvs)) : TyOf K H (.ref a) (.type "dict")
  | ins {a C dx : Addr} {fs : List (Str × V)} (e : H a = some (.ins C dx fs)) (cl : Cls K C) (ha : PySem.W.findIn K (.ref C) "__class__" = some (some (.builtin "object.__class__")))
      (hn : PySem.W.specialIn K (.builtin "object.__class__") "__get__" = some (some (.builtin "getset_descriptor.__get__"))) (htk : PySem.W.takesIn K (.builtin "object.__class__") = some true)
      (hm : PySem.W.mroIn K C (.type "object") = some true) : TyOf K H (.ref a) (.ref C)
/-- isinstance(x, c) for one class c, a built-in or an own one: kitOne's answer -/
theorem isinst_ok {x : V} {u t : Value} (I : Inv X pins σ H s) (rx : RelV x u) (ty : TyOf X.K H x t) (e : PySem.W.kitOne X.K t c = some b) (h : ∀ tk, Q (.bool b) { s with toks := tk }) :
    wpAny (model X.prog X.w) A (call (.builtin "isinstance") [u, c]) Q E s := by
  cases ty with
  | non => cases (show u = Value.none from rx); exact PySem.W.kia_one PySem.W.kitx_none I.kIn True.intro e (fun z => nomatch z) h
  | bl y => cases (show u = Value.bool y from rx); exact PySem.W.kia_one PySem.W.kitx_bool I.kIn True.intro e (fun z => nomatch z) h
  | int i => obtain ⟨t, q⟩ := (show ∃ t, u = Value.int i t from rx); cases q; exact PySem.W.kia_one PySem.W.kitx_int I.kIn True.intro e (fun z => nomatch z) h
  | str y => obtain ⟨t, q⟩ := (show ∃ t, u = Value.str y t from rx); cases q; exact PySem.W.kia_one PySem.W.kitx_str I.kIn True.intro e (fun z => nomatch z) h
  | flt y => obtain ⟨t, q⟩ := (show ∃ t, u = Value.float y t from rx); cases q; exact PySem.W.kia_one PySem.W.kitx_float I.kIn True.intro e (fun z => nomatch z) h
  | @lst a xs ea =>
    cases (show u = Value.ref a from rx)
    obtain ⟨_, _, n, _, h1⟩ := (show ObjOk X.prog X.w H s.heap a (.lst xs) from I.hok a _ ea)
    exact PySem.W.kia_one PySem.W.kitx_list I.kIn ⟨_, h1, rfl⟩ e (fun z => nomatch z) h
  | @frz a ob xs ea =>
    cases (show u = Value.ref a from rx)
    obtain ⟨_, _, _, n, _, h1⟩ := (show ObjOk X.prog X.w H s.heap a (.frz ob (.lst xs)) from I.hok a _ ea)
    exact PySem.W.kia_one PySem.W.kitx_list I.kIn ⟨_, h1, rfl⟩ e (fun z => nomatch z) h
  | @tup a xs ea =>
    cases (show u = Value.ref a from rx)
    obtain ⟨_, _, _, p⟩ := (show ObjOk X.prog X.w H s.heap a (.tup xs) from I.hok a _ ea)
    obtain ⟨o, h1, h2, _⟩ := p
    exact PySem.W.kia_one PySem.W.kitx_tuple I.kIn ⟨o, h1, h2⟩ e (fun z => nomatch z) h
  | @dK a kvs ea =>
    cases (show u = Value.ref a from rx)
    obtain ⟨_, _, vs, _, p⟩ := (show ObjOk X.prog X.w H s.heap a (.dK kvs) from I.hok a _ ea)
    obtain ⟨o, es, ep, h1, h2, _⟩ := p
    exact PySem.W.kia_one PySem.W.kitx_dict I.kIn ⟨o, h1, h2.1⟩ e (fun z => nomatch z) h
  | @dT a kvs ea =>
    cases (show u = Value.ref a from rx)
    obtain ⟨_, _, xs, _, o, es, ep, h1, h2, _⟩ := (show ObjOk X.prog X.w H s.heap a (.dT kvs) from I.hok a _ ea)
    exact PySem.W.kia_one PySem.W.kitx_dict I.kIn ⟨o, h1, h2.1⟩ e (fun z => nomatch z) h
  | @ins a C dx fs ea cl ha hn htk hm =>
    cases (show u = Value.ref a from rx)
    obtain ⟨mA, O, _⟩ := ins_get I.hok ea
    obtain ⟨od, J, _⟩ := O.look
    exact PySem.W.kia_one (PySem.W.kitx_own (cl.get _) cl.hd ha hn htk hm) I.kIn J e (fun z => nomatch z) h
end
end L2

namespace L2
open PySem PySem.Spec PyProof.Rows

/-! ### room -/
structure Room (k : Nat) (A : Around) : Prop where
  hd : A.handled = none
  dp : A.depth + 3 * k + 5 < recursionLimit
  un : A.units + 16 * k + 200 < cLine
theorem Room.mono {j k : Nat} {A : Around} (r : Room k A) (h : j ≤ k) : Room j A := ⟨r.hd, by have := r.dp; omega, by have := r.un; omega⟩
theorem Room.deeper {k : Nat} {A : Around} (r : Room (k + 1) A) (env : Env) : Room k (A.deeper env) :=
  ⟨r.hd, by have := r.dp; show A.depth + 1 + 3 * k + 5 < _; omega, by have := r.un; show A.units + 3 + 16 * k + 200 < _; omega⟩
theorem Room.in1 {k : Nat} {A : Around} (r : Room (k + 1) A) : Room k A.in1 :=
  ⟨r.hd, by have := r.dp; show A.depth + 3 * k + 5 < _; omega, by have := r.un; show A.units + 1 + 16 * k + 200 < _; omega⟩
theorem make_depth {A : Around} {C : Addr} {us : List Value} {kw : List (Str × Value)} : (A.under (.builtin "type.__call__" ⟨.ref C :: us, kw⟩)).depth = A.depth + 1 := by
  first | rfl | simp [Around.under, Code.weight, Code.isCreation, Code.isGuard, Code.isCaller, Code.frames, Code.isFrame, guardIds]
theorem make_units {A : Around} {C : Addr} {us : List Value} {kw : List (Str × Value)} : (A.under (.builtin "type.__call__" ⟨.ref C :: us, kw⟩)).units = A.units + 1 := by
  first | rfl | simp [Around.under, Code.cUnits, Code.frames, Code.isFrame]
theorem Room.make {k : Nat} {A : Around} (r : Room (k + 1) A) (C : Addr) (us : List Value) (kw : List (Str × Value)) : Room k (A.under (.builtin "type.__call__" ⟨.ref C :: us, kw⟩)) :=
  ⟨r.hd, by have := r.dp; rw [make_depth]; omega, by have := r.un; rw [make_units]; omega⟩
theorem Room.depth {k : Nat} {A : Around} (r : Room k A) : A.depth < recursionLimit := by have := r.dp; omega
theorem Room.units {k : Nat} {A : Around} (r : Room k A) : A.units + 64 < cLine := by have := r.un; omega
theorem Room.units0 {k : Nat} {A : Around} (r : Room k A) : A.units < cLine := by have := r.un; omega

/-! ### argument lists and displays -/
def tNil : TA := fun _ H Q => Q [] H
def tCons (ta : TE) (tr : TA) : TA := fun σ H Q => ta σ H fun x H1 => tr σ H1 fun xs H2 => Q (x :: xs) H2
section
variable {X : Cx} {e : Expr} {es : List Expr} {te : TE} {t : TA} {pos : Pos}
theorem pa_nil : PA X [] tNil := fun _ _ _ _ H Q I h => Calls.spliced_nil ⟨[], H, I, .nil, h⟩
theorem pa_cons (ha : PE X e te) (hr : PA X es t) (hs : starEach (e :: es) X.env = (false, eval e X.env) :: starEach es X.env := by rfl) : PA X (e :: es) (tCons te t) := by
  intro pos pins s σ H Q I h
  rw [hs]
  show wpAny _ _ (spliced ((false, eval e X.env) :: backTo pos (starEach es X.env))) _ _ s
  refine Calls.spliced_cons (thn (ha pins s σ H _ I h) fun u s1 ⟨x, H1, I1, r1, q1⟩ => ?_)
  exact thn (hr pos pins s1 σ H1 _ I1 q1) fun us s2 ⟨xs, H2, I2, r2, q2⟩ => ⟨x :: xs, H2, I2, .cons r1 r2, q2⟩

/-- a tuple, a list of written items -/
def tTup (t : TA) : TE := fun σ H Q => t σ H fun xs H1 => xs.length ≤ sizeLine ∧ ∀ p, H1 p = none → Q (.ref p) (upd H1 p (.tup xs))
def tLst (t : TA) : TE := fun σ H Q => t σ H fun xs H1 => xs.length ≤ sizeLine ∧ ∀ p, H1 p = none → Q (.ref p) (upd H1 p (.lst xs))
theorem pe_tup {x1} (h : PA X es t) : PE X (.Tuple es x1 pos) (tTup t) := by
  intro pins s σ H Q I hq
  refine wpAny_Tuple_spliced (thn (h pos pins s σ H _ I hq) fun us s1 ⟨xs, H1, I1, r, z, q⟩ => ⟨by rw [← r.length]; exact z, ?_⟩)
  have hf : H1 s1.heap.objs.size = none := I1.hok.fresh (Nat.le_refl _)
  refine ⟨.ref s1.heap.objs.size, upd H1 s1.heap.objs.size (.tup xs), I1.laid (t' := s1.toks) (fun b u e => Heap.get?_push_of_some _ e) (Nat.le_refl _) ?_, rfl, q _ hf⟩
  exact ⟨z, us, r, ⟨_, Heap.get?_push_size _ rfl, rfl, _, rfl⟩⟩
theorem pe_lst (h : PA X es t) : PE X (.List es pos) (tLst t) := by
  intro pins s σ H Q I hq
  refine wpAny_List_spliced (thn (h pos pins s σ H _ I hq) fun us s1 ⟨xs, H1, I1, r, z, q⟩ => ⟨by rw [← r.length]; exact z, ?_⟩)
  have hf : H1 s1.heap.objs.size = none := I1.hok.fresh (Nat.le_refl _)
  refine ⟨.ref s1.heap.objs.size, upd H1 s1.heap.objs.size (.lst xs), I1.laid (t' := s1.toks) (fun b u e => Heap.get?_push_of_some _ e) (Nat.le_refl _) ?_, rfl, q _ hf⟩
  exact ⟨z, us, 0, r, Heap.get?_push_size _ rfl⟩
end

/-! ### what a def promises -/
/-- a def's promise: the bound arguments in the parameters' order, the heap, the wanted end, the wanted exception -/
abbrev Sp := List V → Hp → VK → XK → Prop
/-- how an exception lies behind a call (file 08 gives it): the callers' frames, abstract heap and state ahead of the call, the wish, the exception, the state -/
abbrev CXT := List Env → Hp → Shared → XK → Value → Shared → Prop

/-- the state at a call -/
structure Env0 (P : Program) (w : World) (K : PySem.W.Frag) (mg : Str → Option Value) (base : Heap) (A : Around) (outer : List Env) (s : Shared) (H : Hp) : Prop where
  frames : A.frames = some outer
  mod : Mod K mg base
  bs : ∀ b o, base.get? b = some o → s.heap.get? b = some o ∧ H b = none
  bsz : base.objs.size ≤ s.heap.objs.size
  funs : s.heap.FunFrames base outer
  frf : ∀ b ∈ frs outer, H b = none
  hok : HOk P w H s.heap
  bare : AllBare s.gens
/-- a call's end -/
def CE (outer : List Env) (P : Program) (w : World) (H : Hp) (s : Shared) (Q : VK) (u : Value) (s' : Shared) : Prop :=
  ∃ v H', s'.os = s.os ∧ AllBare s'.gens ∧ Un (frs outer) [] H H' s.heap s'.heap ∧ HOk P w H' s'.heap ∧ RelV v u ∧ Q v H'
def CR (CX : CXT) (outer : List Env) (P : Program) (w : World) (H : Hp) (s : Shared) (Q : VK) (E : XK) (r : Result) (s' : Shared) : Prop :=
  match r with
  | .ok (.ret u) => CE outer P w H s Q u s'
  | .ok _ => False
  | .error e => CX outer H s E e s'
structure FnOk (P : Program) (w : World) (K : PySem.W.Frag) (mg : Str → Option Value) (base : Heap) (CX : CXT) (k : Nat) (f : Addr) (fd : FuncData) (ps : List Str) (sp : Sp) : Prop where
  len : ∀ vs H Q E, sp vs H Q E → vs.length = ps.length
  run : ∀ (A : Around) (outer : List Env) (s : Shared) (H : Hp) (args : Args) (us : List Value) (vs : List V) (Q : VK) (E : XK), Room k A → Env0 P w K mg base A outer s H → BindsTo s fd args (ps.zip us) → Vals vs us → sp vs H Q E →
    codeAny (model P w) A (.call (.ref f) args) (CR CX outer P w H s Q E) s
theorem FnOk.mono {P : Program} {w : World} {K : PySem.W.Frag} {mg : Str → Option Value} {base : Heap} {CX : CXT} {j k : Nat} {f : Addr} {fd : FuncData} {ps : List Str} {sp : Sp} (F : FnOk P w K mg base CX j f fd ps sp) (h : j ≤ k) :
    FnOk P w K mg base CX k f fd ps sp := ⟨F.len, fun A outer s H args us vs Q E hr => F.run A outer s H args us vs Q E (hr.mono h)⟩
/-- a weaker promise -/
theorem FnOk.imp {P : Program} {w : World} {K : PySem.W.Frag} {mg : Str → Option Value} {base : Heap} {CX : CXT} {k : Nat} {f : Addr} {fd : FuncData} {ps : List Str} {sp sp' : Sp} (F : FnOk P w K mg base CX k f fd ps sp)
    (h : ∀ vs H Q E, sp' vs H Q E → sp vs H Q E) : FnOk P w K mg base CX k f fd ps sp' :=
  ⟨fun vs H Q E q => F.len vs H Q E (h _ _ _ _ q), fun A outer s H args us vs Q E hr he hb hv hs => F.run A outer s H args us vs Q E hr he hb hv (h _ _ _ _ hs)⟩

theorem Env0.make {P : Program} {w : World} {K : PySem.W.Frag} {mg : Str → Option Value} {base : Heap} {A : Around} {outer : List Env} {s : Shared} {H : Hp} (e : Env0 P w K mg base A outer s H) (C : Addr) (us : List Value) (kw : List (Str × Value)) :
    Env0 P w K mg base (A.under (.builtin "type.__call__" ⟨.ref C :: us, kw⟩)) outer s H := ⟨by first | exact e.frames | (simpa [Around.under, Code.envs, Code.isFrame, pushEnvs] using e.frames), e.mod, e.bs, e.bsz, e.funs, e.frf, e.hok, e.bare⟩
theorem Env0.in1 {P : Program} {w : World} {K : PySem.W.Frag} {mg : Str → Option Value} {base : Heap} {A : Around} {outer : List Env} {s : Shared} {H : Hp} (e : Env0 P w K mg base A outer s H) :
    Env0 P w K mg base A.in1 outer s H := ⟨e.frames, e.mod, e.bs, e.bsz, e.funs, e.frf, e.hok, e.bare⟩

section
variable {X : Cx} {pins : List (Addr × Obj)} {σ : St} {H : Hp} {s s' : Shared}
/-- from a body: what a callee wants -/
theorem Inv.env0 (I : Inv X pins σ H s) : Env0 X.prog X.w X.K X.mg X.base X.A X.stack s H :=
  ⟨I.ok.frames, I.ok.mod, I.bs, Nat.le_trans I.ok.bsz I.sz, I.stack, I.stkFree, I.hok, I.bare⟩
/-- behind a call -/
theorem Inv.after {Q : VK} {u : Value} (I : Inv X pins σ H s) (h : CE X.stack X.prog X.w H s Q u s') : EP X pins σ Q u s' := by
  obtain ⟨v, H', os, bare, un, hok, r, q⟩ := h
  obtain ⟨hh, g, d, t, os'⟩ := s'
  obtain rfl : os' = s.os := os
  exact ⟨v, H', I.call (h' := hh) (g' := g) (d' := d) (t' := t) (ch := []) un hok bare (fun b z => absurd z (by simp)), r, q⟩
end

/-! ### calls -/
/-- f(..): the written arguments, then the defaults dvs; E: what is wanted of an exception -/
def tCall (sp : Sp) (dvs : List V) (E : XK) (t : TA) : TE := fun σ H Q => t σ H fun vs H1 => sp (vs ++ dvs) H1 Q E
/-- o.m(..) of an instance of the class at C -/
def tMeth (C : Addr) (m : Str) (sp : Sp) (dvs : List V) (E : XK) (ta : TE) (t : TA) : TE := fun σ H Q => ta σ H fun x H1 => ∃ a dx fs, x = .ref a ∧ H1 a = some (.ins C dx fs) ∧ fs.lookup m = none ∧
  t σ H1 fun vs H2 => sp (x :: (vs ++ dvs)) H2 Q E
/-- C(..): a new instance and its dict, then __init__ -/
def tMake (C : Addr) (sp : Sp) (dvs : List V) (E : XK) (t : TA) : TE := fun σ H Q => t σ H fun vs H1 => ∀ x dx, H1 x = none → H1 dx = none → dx ≠ x →
  sp (.ref x :: (vs ++ dvs)) (upd (upd H1 dx (.own x)) x (.ins C dx [])) (fun v H2 => v = .non ∧ Q (.ref x) H2) E

/-- how the parameters are bound: us the positional arguments, kw the keywords' values by name, ds the defaults that fill up -/
def Binds (K : PySem.W.Frag) (fd : FuncData) (ps : List Str) (ds : List Value) : Prop :=
  ∀ (s : Shared) (us : List Value), K.In s.heap → (us ++ ds).length = ps.length → BindsTo s fd ⟨us, []⟩ (ps.zip (us ++ ds))
/-- every parameter is given -/
theorem Binds.all {K : PySem.W.Frag} {fd : FuncData} {ps : List Str} (h : ∀ us : List Value, us.length = ps.length → bindArgs fd ⟨us, []⟩ = pure (ps.zip us)) : Binds K fd ps [] := fun s us _ hl => by
  rw [List.append_nil] at hl ⊢
  exact .of_eq (h us hl)

/-- an exception of a callee reaches what this body wants of exceptions -/
def Passes (CX : CXT) (X : Cx) (E : XK) : Prop := ∀ (pins : List (Addr × Obj)) (σ : St) (H : Hp) (s : Shared) (e : Value) (s' : Shared), Inv X pins σ H s → CX X.stack H s E e s' → X.xe e s'

section
variable {X : Cx} {CX : CXT} {k : Nat} {f C : Addr} {fd : FuncData} {ps : List Str} {sp : Sp} {dvs : List V} {ds : List Value} {E : XK} {x m : Str} {p pos apos : Pos} {e o : Expr} {es : List Expr} {ta : TE} {t : TA}

/-- the callee runs -/
theorem run_fn {pins : List (Addr × Obj)} {σ : St} {H : Hp} {s : Shared} {Q : VK} {us : List Value} {vs : List V} (F : FnOk X.prog X.w X.K X.mg X.base CX k f fd ps sp) (hr : Room k X.A) (hb : Binds X.K fd ps ds) (hd : Vals dvs ds) (hx : Passes CX X E)
    (I : Inv X pins σ H s) (r : Vals vs us) (h : sp (vs ++ dvs) H Q E) : wpAny (model X.prog X.w) X.A (call (.ref f) us) (EP X pins σ Q) X.xe s := by
  have r2 : Vals (vs ++ dvs) (us ++ ds) := r.append hd
  have hl : (us ++ ds).length = ps.length := by rw [← r2.length]; exact F.len _ _ _ _ h
  refine wpAny_call (codeAny_mono (F.run X.A X.stack s H ⟨us, []⟩ (us ++ ds) (vs ++ dvs) Q E hr I.env0 (hb s us I.kIn hl) r2 h) fun r s' hq => ?_)
  cases r with
  | error e => exact hx pins σ H s e s' I hq
  | ok fl =>
    cases fl with
    | ret u => exact I.after hq
    | next => exact False.elim hq
    | brk => exact False.elim hq
    | cont => exact False.elim hq

theorem pe_call (F : FnOk X.prog X.w X.K X.mg X.base CX k f fd ps sp) (hr : Room k X.A) (hg : Gl X x) (hm : X.mg x = some (.ref f)) (hk : PySem.W.keepIn X.K (.ref f) = true) (hb : Binds X.K fd ps ds) (hd : Vals dvs ds) (hx : Passes CX X E)
    (ha : PA X (e :: es) t) (hdb : (x == ("__debug__" : Str)) = false := by decide) (he : starEach (e :: es) X.env = (false, eval e X.env) :: starEach es X.env := by rfl) (hpl : (backTo pos (starEach es X.env)).any (·.1) = false := by rfl) :
    PE X (.Call (.Name x p) (e :: es) [] pos) (tCall sp dvs E t) := by
  intro pins s σ H Q I h
  refine wpAny_Call_Name_kw (ld_glob I hg hm ?_ hdb)
  refine PySem.W.callWith_K (h₀ := X.base) I.ok.mod.kin hk (thn (ha pos pins s σ H _ I h) fun us s1 ⟨vs, H1, I1, r, q⟩ => ⟨I1.kIn, ?_⟩) he hpl
  exact run_fn F hr hb hd hx I1 r q
theorem pe_call0 (F : FnOk X.prog X.w X.K X.mg X.base CX k f fd ps sp) (hr : Room k X.A) (hg : Gl X x) (hm : X.mg x = some (.ref f)) (hk : PySem.W.keepIn X.K (.ref f) = true) (hb : Binds X.K fd ps ds) (hd : Vals dvs ds) (hx : Passes CX X E)
    (hdb : (x == ("__debug__" : Str)) = false := by decide) : PE X (.Call (.Name x p) [] [] pos) (tCall sp dvs E tNil) := by
  intro pins s σ H Q I h
  refine wpAny_Call_Name_kw (ld_glob I hg hm ?_ hdb)
  exact PySem.W.callWith_K0 I.kIn hk (run_fn (us := []) F hr hb hd hx I .nil h)

/-- o.m(e, ..) -/
theorem pe_meth {pl : Sem Bool} (he : PE X o ta) (c : Cls X.K C) (hm : Meth X.K C m f) (F : FnOk X.prog X.w X.K X.mg X.base CX k f fd ps sp) (hr : Room k X.A) (hb : Binds X.K fd ps ds) (hd : Vals dvs ds) (hx : Passes CX X E) (ha : PA X (e :: es) t)
    (hst : starEach (e :: es) X.env = (false, eval e X.env) :: starEach es X.env := by rfl) (hpl : (backTo pos (starEach es X.env)).any (·.1) = false := by rfl)
    (ht : eval (.Call (.Attribute o m apos) (e :: es) [] pos) X.env = (do
      let ov ← eval o X.env
      standAt apos.atName
      let (f, first) ← holding [ov] (getMethod ov m pl)
      callWith pos f first (backTo pos (starEach (e :: es) X.env)) (backToKw pos (keywordEach [] X.env))) := by rfl) :
    PE X (.Call (.Attribute o m apos) (e :: es) [] pos) (tMeth C m sp dvs E ta t) := by
  intro pins s σ H Q I h
  refine PySem.W.methodCall_KW (pl := pl) (thn (he pins s σ H _ I h) fun u s1 ⟨x, H1, I1, rx, a, dx, fs, ex, ea, l, q⟩ => ?_) ht
  subst ex
  obtain rfl : u = Value.ref a := rx
  refine getmeth_ok I1 ea c hm l ?_
  refine PySem.W.callWith_K (first := [.ref a]) (h₀ := X.base) I.ok.mod.kin hm.kp (thn (ha pos pins s1 σ H1 _ I1 q) fun us s2 ⟨vs, H2, I2, r, q2⟩ => ⟨I2.kIn, ?_⟩) hst hpl
  exact run_fn (us := .ref a :: us) (vs := .ref a :: vs) F hr hb hd hx I2 (.cons rfl r) q2
/-- o.m() -/
theorem pe_meth0 {pl : Sem Bool} (he : PE X o ta) (c : Cls X.K C) (hm : Meth X.K C m f) (F : FnOk X.prog X.w X.K X.mg X.base CX k f fd ps sp) (hr : Room k X.A) (hb : Binds X.K fd ps ds) (hd : Vals dvs ds) (hx : Passes CX X E)
    (ht : eval (.Call (.Attribute o m apos) [] [] pos) X.env = (do
      let ov ← eval o X.env
      standAt apos.atName
      let (f, first) ← holding [ov] (getMethod ov m pl)
      callWith pos f first (backTo pos (starEach [] X.env)) (backToKw pos (keywordEach [] X.env))) := by rfl) :
    PE X (.Call (.Attribute o m apos) [] [] pos) (tMeth C m sp dvs E ta tNil) := by
  intro pins s σ H Q I h
  refine PySem.W.methodCall_KW (pl := pl) (thn (he pins s σ H _ I h) fun u s1 ⟨x, H1, I1, rx, a, dx, fs, ex, ea, l, q⟩ => ?_) ht
  subst ex
  obtain rfl : u = Value.ref a := rx
  refine getmeth_ok I1 ea c hm l ?_
  exact PySem.W.callWith_K0 (first := [.ref a]) I1.kIn hm.kp (run_fn (us := [.ref a]) (vs := [.ref a]) F hr hb hd hx I1 (.cons rfl .nil) q)

/-- what a class must have to be made -/
structure Mk (K : PySem.W.Frag) (C f : Addr) : Prop where
  makes : PySem.W.makesIn K C = true
  init : PySem.W.findIn K (.ref C) "__init__" = some (some (.ref f))
  fn : PySem.W.isFn K (.ref f) = true
  kp : PySem.W.keepIn K (.ref C) = true

theorem run_make {pins : List (Addr × Obj)} {σ : St} {H : Hp} {s : Shared} {Q : VK} {us : List Value} {vs : List V} (M : Mk X.K C f) (F : FnOk X.prog X.w X.K X.mg X.base CX k f fd ps sp) (hr : Room (k + 1) X.A) (hb : Binds X.K fd ps ds) (hd : Vals dvs ds)
    (hx : Passes CX X E) (I : Inv X pins σ H s) (r : Vals vs us)
    (h : ∀ x dx, H x = none → H dx = none → dx ≠ x → sp (.ref x :: (vs ++ dvs)) (upd (upd H dx (.own x)) x (.ins C dx [])) (fun v H2 => v = .non ∧ Q (.ref x) H2) E) :
    wpAny (model X.prog X.w) X.A (call (.ref C) us) (EP X pins σ Q) X.xe s := by
  have hq := h (s.heap.objs.size + 1) s.heap.objs.size (I.hok.fresh (Nat.le_succ _)) (I.hok.fresh (Nat.le_refl _)) (Nat.ne_of_lt (Nat.lt_succ_self _))
  have I2 := Inv.made (C := C) I
  have r2 : Vals (V.ref (s.heap.objs.size + 1) :: (vs ++ dvs)) (Value.ref (s.heap.objs.size + 1) :: (us ++ ds)) := .cons rfl (r.append hd)
  have hl : (Value.ref (s.heap.objs.size + 1) :: us ++ ds).length = ps.length := by
    have e := r2.length
    rw [F.len _ _ _ _ hq] at e
    exact e.symm
  refine wpAny_call (make_map (f := f) I.kIn M.makes M.init (beq_iff_eq.mp M.fn) (codeAny_mono (F.run _ X.stack _ _ ⟨Value.ref (s.heap.objs.size + 1) :: us, []⟩ (Value.ref (s.heap.objs.size + 1) :: (us ++ ds)) _ _ E (hr.make C us [])
    (I2.env0.make C us []) (hb _ (Value.ref (s.heap.objs.size + 1) :: us) I2.kIn hl) r2 hq) fun r s' hq' => ?_))
  cases r with
  | error e => exact hx pins σ _ _ e s' I2 hq'
  | ok fl =>
    cases fl with
    | ret u =>
      obtain ⟨v, H', I3, rv, ev, q3⟩ := I2.after hq'
      subst ev
      exact ⟨rv, ⟨V.ref (s.heap.objs.size + 1), H', I3, rfl, q3⟩⟩
    | next => exact False.elim hq'
    | brk => exact False.elim hq'
    | cont => exact False.elim hq'
theorem pe_make (M : Mk X.K C f) (F : FnOk X.prog X.w X.K X.mg X.base CX k f fd ps sp) (hr : Room (k + 1) X.A) (hg : Gl X x) (hm : X.mg x = some (.ref C)) (hb : Binds X.K fd ps ds) (hd : Vals dvs ds) (hx : Passes CX X E)
    (ha : PA X (e :: es) t) (hdb : (x == ("__debug__" : Str)) = false := by decide) (he : starEach (e :: es) X.env = (false, eval e X.env) :: starEach es X.env := by rfl) (hpl : (backTo pos (starEach es X.env)).any (·.1) = false := by rfl) :
    PE X (.Call (.Name x p) (e :: es) [] pos) (tMake C sp dvs E t) := by
  intro pins s σ H Q I h
  refine wpAny_Call_Name_kw (ld_glob I hg hm ?_ hdb)
  refine PySem.W.callWith_K (h₀ := X.base) I.ok.mod.kin M.kp (thn (ha pos pins s σ H _ I h) fun us s1 ⟨vs, H1, I1, r, q⟩ => ⟨I1.kIn, ?_⟩) he hpl
  exact run_make M F hr hb hd hx I1 r q
theorem pe_make0 (M : Mk X.K C f) (F : FnOk X.prog X.w X.K X.mg X.base CX k f fd ps sp) (hr : Room (k + 1) X.A) (hg : Gl X x) (hm : X.mg x = some (.ref C)) (hb : Binds X.K fd ps ds) (hd : Vals dvs ds) (hx : Passes CX X E)
    (hdb : (x == ("__debug__" : Str)) = false := by decide) : PE X (.Call (.Name x p) [] [] pos) (tMake C sp dvs E tNil) := by
  intro pins s σ H Q I h
  refine wpAny_Call_Name_kw (ld_glob I hg hm ?_ hdb)
  exact PySem.W.callWith_K0 I.kIn M.kp (run_make (us := []) M F hr hb hd hx I .nil h)
end

/-! ### keywords -/
/-- the values of the keywords, from the left -/
def PK (X : Cx) (kws : List Keyword) (t : TA) : Prop :=
  ∀ (pos : Pos) (pins : List (Addr × Obj)) (s : Shared) (σ : St) (H : Hp) (Q : List V → Hp → Prop), Inv X pins σ H s → t σ H Q → wpAny (model X.prog X.w) X.A (evalAll ((backToKw pos (keywordEach kws X.env)).map (·.2))) (AP X pins σ Q) X.xe s
section
variable {X : Cx} {CX : CXT} {k : Nat} {f C : Addr} {fd : FuncData} {ps ks : List Str} {sp : Sp} {E : XK} {x m : Str} {p pos apos kpos : Pos} {e o : Expr} {es : List Expr} {kws : List Keyword} {te ta : TE} {t tk : TA} {nm : Option Str}
theorem pk_nil : PK X [] tNil := fun _ _ _ _ H Q I h => wpAny_evalAll_nil ⟨[], H, I, .nil, h⟩
theorem pk_cons (ha : PE X e te) (hr : PK X kws t) : PK X (⟨nm, e, kpos⟩ :: kws) (tCons te t) := by
  intro pos pins s σ H Q I h
  show wpAny _ _ (evalAll ((do let v ← eval e X.env; standAt pos; pure v) :: (backToKw pos (keywordEach kws X.env)).map (·.2))) _ _ s
  refine wpAny_evalAll_cons (wpAny_bind (thn (ha pins s σ H _ I h) fun u s1 ⟨x, H1, I1, r1, q1⟩ => wpAny_bind (wpAny_standAt (wpAny_pure ?_))))
  exact thn (hr pos pins s1 σ H1 _ I1 q1) fun us s2 ⟨xs, H2, I2, r2, q2⟩ => ⟨x :: xs, H2, I2, .cons r1 r2, q2⟩

/-- how a call with keywords binds: g puts the positional values us and the keywords' values ws (names ks) in the parameters' order, defaults among them -/
structure KBinds (K : PySem.W.Frag) (fd : FuncData) (ps ks : List Str) (g : List Value → List Value → List Value) (gV : List V → List V → List V) : Prop where
  to : ∀ (s : Shared) (us ws : List Value), K.In s.heap → (g us ws).length = ps.length → BindsTo s fd ⟨us, ks.zip ws⟩ (ps.zip (g us ws))
  rel : ∀ {vs : List V} {us : List Value} {zs : List V} {ws : List Value}, Vals vs us → Vals zs ws → Vals (gV vs zs) (g us ws)
def tCallK (sp : Sp) (gV : List V → List V → List V) (E : XK) (t tk : TA) : TE := fun σ H Q => t σ H fun vs H1 => tk σ H1 fun zs H2 => sp (gV vs zs) H2 Q E
variable {g : List Value → List Value → List Value} {gV : List V → List V → List V}
theorem run_fnk {pins : List (Addr × Obj)} {σ : St} {H : Hp} {s : Shared} {Q : VK} {us ws : List Value} {vs zs : List V} (F : FnOk X.prog X.w X.K X.mg X.base CX k f fd ps sp) (hr : Room k X.A) (hb : KBinds X.K fd ps ks g gV) (hx : Passes CX X E)
    (I : Inv X pins σ H s) (r : Vals vs us) (rz : Vals zs ws) (h : sp (gV vs zs) H Q E) : wpAny (model X.prog X.w) X.A (call (.ref f) us (ks.zip ws)) (EP X pins σ Q) X.xe s := by
  have r2 := hb.rel r rz
  have hl : (g us ws).length = ps.length := by rw [← r2.length]; exact F.len _ _ _ _ h
  refine wpAny_call (codeAny_mono (F.run X.A X.stack s H ⟨us, ks.zip ws⟩ (g us ws) (gV vs zs) Q E hr I.env0 (hb.to s us ws I.kIn hl) r2 h) fun r s' hq => ?_)
  cases r with
  | error e => exact hx pins σ H s e s' I hq
  | ok fl =>
    cases fl with
    | ret u => exact I.after hq
    | next => exact False.elim hq
    | brk => exact False.elim hq
    | cont => exact False.elim hq
/-- f(e, .., k = v, ..) -/
theorem pe_callK (F : FnOk X.prog X.w X.K X.mg X.base CX k f fd ps sp) (hr : Room k X.A) (hg : Gl X x) (hm : X.mg x = some (.ref f)) (hk : PySem.W.keepIn X.K (.ref f) = true) (hb : KBinds X.K fd ps ks g gV) (hx : Passes CX X E)
    (ha : PA X (e :: es) t) (hkw : PK X kws tk) (hall : (backToKw pos (keywordEach kws X.env)).all (·.1.isSome) = true := by rfl) (hks : (backToKw pos (keywordEach kws X.env)).filterMap (·.1) = ks := by rfl)
    (hdb : (x == ("__debug__" : Str)) = false := by decide) (he : starEach (e :: es) X.env = (false, eval e X.env) :: starEach es X.env := by rfl)
    (hpl : ((backTo pos (starEach (e :: es) X.env)).any (·.1) || (backToKw pos (keywordEach kws X.env)).any (·.1.isNone)) = false := by rfl) :
    PE X (.Call (.Name x p) (e :: es) kws pos) (tCallK sp gV E t tk) := by
  intro pins s σ H Q I h
  refine wpAny_Call_Name_kw (ld_glob I hg hm ?_ hdb)
  refine PySem.W.callWith_KW (h₀ := X.base) I.ok.mod.kin hk hall (thn (ha pos pins s σ H _ I h) fun us s1 ⟨vs, H1, I1, r, q⟩ => ?_) hpl he
  refine thn (hkw pos pins s1 σ H1 _ I1 q) fun ws s2 ⟨zs, H2, I2, rz, q2⟩ => ⟨I2.kIn, ?_⟩
  rw [hks]
  exact run_fnk F hr hb hx I2 r rz q2
end

/-! ### a def's body keeps its promise -/
/-- names: the parameters first -/
structure FnScope (N P : List Str) (sc : Scope) : Prop where
  kind : sc.kind = .function
  co : sc.isCoroutine = false
  gen : sc.isGenerator = false
  nd : N.Nodup
  pre : N.take P.length = P
  par : ∀ x ∈ P, sc.names.lookup x = some .local ∨ sc.names.lookup x = some .cell
  nofree : ∀ y ∈ sc.names, y.2 ≠ .free

theorem bindL_out {kindOf : Str → Option NameKind} {x : Str} : ∀ {binds : List (Str × Value)} {m : Str → Option Value}, (∀ v, (x, v) ∉ binds) → bindL kindOf binds m x = m x
  | [], _, _ => rfl
  | (n, v) :: r, m, h => by
    unfold bindL
    rw [bindL_out fun w hw => h w (List.mem_cons_of_mem _ hw)]
    split
    · have : x ≠ n := by rintro rfl; exact h v List.mem_cons_self
      simp [this]
    · rfl
theorem bindC_out {kindOf : Str → Option NameKind} {x : Str} : ∀ {binds : List (Str × Value)} {m : Str → Option Value}, (∀ v, (x, v) ∉ binds) → bindC kindOf binds m x = m x
  | [], _, _ => rfl
  | (n, v) :: r, m, h => by
    unfold bindC
    rw [bindC_out fun w hw => h w (List.mem_cons_of_mem _ hw)]
    split
    · rfl
    · have : x ≠ n := by rintro rfl; exact h v List.mem_cons_self
      simp [this]
theorem bindL_get {kindOf : Str → Option NameKind} {x : Str} {v : Value} : ∀ {P : List Str} {vs : List Value} {i : Nat} {m : Str → Option Value}, P.Nodup → P[i]? = some x → vs[i]? = some v → kindOf x = some .local →
    bindL kindOf (P.zip vs) m x = some v
  | [], _, _, _, _, h, _, _ => by simp at h
  | _ :: _, [], _, _, _, _, h, _ => by simp at h
  | p :: P, w :: vs, 0, m, nd, h1, h2, hk => by
    simp at h1 h2; subst h1; subst h2
    show bindL kindOf ((p, w) :: P.zip vs) m p = _
    unfold bindL
    rw [bindL_out fun v hv => (List.nodup_cons.mp nd).1 (List.of_mem_zip hv).1, if_pos hk]
    simp
  | p :: P, w :: vs, i + 1, m, nd, h1, h2, hk => by
    show bindL kindOf ((p, w) :: P.zip vs) m x = _
    unfold bindL
    exact bindL_get (i := i) (List.nodup_cons.mp nd).2 (by simpa using h1) (by simpa using h2) hk
theorem bindC_get {kindOf : Str → Option NameKind} {x : Str} {v : Value} : ∀ {P : List Str} {vs : List Value} {i : Nat} {m : Str → Option Value}, P.Nodup → P[i]? = some x → vs[i]? = some v → kindOf x ≠ some .local →
    bindC kindOf (P.zip vs) m x = some v
  | [], _, _, _, _, h, _, _ => by simp at h
  | _ :: _, [], _, _, _, _, h, _ => by simp at h
  | p :: P, w :: vs, 0, m, nd, h1, h2, hk => by
    simp at h1 h2; subst h1; subst h2
    show bindC kindOf ((p, w) :: P.zip vs) m p = _
    unfold bindC
    rw [bindC_out fun v hv => (List.nodup_cons.mp nd).1 (List.of_mem_zip hv).1, if_neg hk]
    simp
  | p :: P, w :: vs, i + 1, m, nd, h1, h2, hk => by
    show bindC kindOf ((p, w) :: P.zip vs) m x = _
    unfold bindC
    exact bindC_get (i := i) (List.nodup_cons.mp nd).2 (by simpa using h1) (by simpa using h2) hk

/-- the names' values at the entry -/
def start (N : List Str) (vs : List V) : St := vs.map some ++ List.replicate (N.length - vs.length) none

/-- the context of a def's body, at its entry; an exception leaves the frame, then lies as CX says -/
def cxOf (CX : CXT) (P : Program) (w : World) (K : PySem.W.Frag) (mg : Str → Option Value) (base : Heap) (N : List Str) (qual : Str) (scope : Scope) (f : Addr) (cd : Value) (A : Around) (outer : List Env) (s : Shared) (H : Hp) (E : XK) : Cx where
  prog := P
  w := w
  K := K
  mg := mg
  base := base
  A := A.deeper (envOfC qual scope s.heap.objs.size f cd)
  N := N
  s₀ := s
  H₀ := H
  env := envOfC qual scope s.heap.objs.size f cd
  outer := outer
  stack := envOfC qual scope s.heap.objs.size f cd :: outer
  ex := []
  calm := true
  fn := fun _ => true
  pn := []
  xe := fun e s' => wpAny (model P w) (A.deeper (envOfC qual scope s.heap.objs.size f cd)) (leaving (envOfC qual scope s.heap.objs.size f cd) e) (fun _ s'' => CX outer H s E e s'') (fun e' s'' => CX outer H s E e' s'') s'

theorem cell_has {sc : Scope} {n : Nat} {x : Str} (h : sc.names.lookup x = some .cell) : ∃ c, (cellsFrom n sc.names []).lookup x = some c := by
  have q := PySem.W.cellsFrom_some sc.names n [] (.inl h)
  exact Option.isSome_iff_exists.mp q

theorem inv_start {CX : CXT} {P : Program} {w : World} {K : PySem.W.Frag} {mg : Str → Option Value} {base : Heap} {N ps : List Str} {qual : Str} {scope : Scope} {f : Addr} {cd : Value} {A : Around} {outer : List Env} {s s1 : Shared} {H : Hp} {E : XK} {us : List Value} {vs : List V}
    (S : FnScope N ps scope) (hd : A.handled = none) (e0 : Env0 P w K mg base A outer s H) (hl : vs.length = ps.length) (r : Vals vs us)
    (x : InCallC s s.heap.objs.size (bindL (envOfC qual scope s.heap.objs.size f cd).kindOf (ps.zip us) fun _ => none) (cellsFrom (s.heap.objs.size + 1) scope.names []) (bindC (envOfC qual scope s.heap.objs.size f cd).kindOf (ps.zip us) fun _ => none) s1) :
    Inv (cxOf CX P w K mg base N qual scope f cd A outer s H E) [] (start N vs) H s1 := by
  have hpl : ps.length ≤ N.length := by have := congrArg List.length S.pre; rw [List.length_take] at this; omega
  obtain ⟨h1, tk, rfl, hk⟩ := x.done
  have noA : ∀ b : Addr, b ∉ (cxOf CX P w K mg base N qual scope f cd A outer s H E).ex := fun b z => absurd (show b ∈ ([] : List Addr) from z) (by simp)
  refine ⟨⟨e0.mod, S.kind, rfl, rfl, Nat.le_refl _, fun y z c h1 h2 => ?_, fun y hy => ?_, fun y c _ h => ?_, fun _ => hd, Around.frames_deeper e0.frames, .inr ⟨rfl, rfl⟩, fun b z => absurd z (noA b), e0.bs, e0.bsz, fun b _ _ => noA b, fun b z => absurd z (noA b), e0.funs, e0.frf⟩,
    rfl, e0.bare, Un.kept hk, ⟨_, x.toInCall.ns, fun i y v h1 h2 h3 => ?_⟩, fun y c h => ⟨_, x.cell y c h⟩, e0.hok.fresh (Nat.le_refl _), fun y c h => ?_, fun p hp => absurd (show p ∈ ([] : List (Addr × Obj)) from hp) (by simp), e0.hok.kept hk, ?_⟩
  · exact name_of_addr x.apart (PySem.mem_of_lookup h1) (PySem.mem_of_lookup h2)
  · have hy : scope.names.lookup y = some .cell ∨ scope.names.lookup y = some .free := hy
    rcases hy with hy | hy
    · exact cell_has hy
    · exact absurd rfl (S.nofree _ (PySem.mem_of_lookup hy))
  · exact Nat.le_of_lt (x.above y c (PySem.mem_of_lookup h))
  · have hi : i < vs.length := by
      unfold start at h2
      by_cases hi : i < vs.length
      · exact hi
      · rw [List.getElem?_append_right (by simpa using hi)] at h2
        rw [List.getElem?_replicate] at h2
        split at h2 <;> cases h2
    have ha : vs[i]? = some v := by
      unfold start at h2
      rw [List.getElem?_append_left (by simpa using hi), List.getElem?_map] at h2
      cases e : vs[i]? with
      | none => rw [e] at h2; cases h2
      | some a => rw [e] at h2; cases h2; rfl
    obtain ⟨u, hu, rv⟩ := r.get ha
    have hp : ps[i]? = some y := by
      rw [← S.pre, List.getElem?_take_of_lt (by omega)]; exact h1
    have ndP : ps.Nodup := by rw [← S.pre]; exact S.nd.sublist (List.take_sublist _ _)
    refine ⟨u, rv, ?_⟩
    rcases S.par y (List.mem_of_getElem? hp) with k | k
    · exact .inl ⟨k, bindL_get ndP hp hu k⟩
    · obtain ⟨c, e⟩ := cell_has (n := s.heap.objs.size + 1) k
      refine .inr ⟨.inl k, c, e, ?_⟩
      have q := x.cell y c e
      rw [bindC_get ndP hp hu (by show scope.names.lookup y ≠ _; rw [k]; decide)] at q
      exact q
  · exact e0.hok.fresh (Nat.le_of_lt (x.above y c (PySem.mem_of_lookup h)))
  · unfold start
    show _ = N.length
    rw [List.length_append, List.length_map, List.length_replicate]
    omega

/-- THE RULE: a def (or a method) of the text, by its body. The body's reading t is chosen for each entry; it is run at the parameters' values -/
theorem fn_of {CX : CXT} {P : Program} {w : World} {K : PySem.W.Frag} {mg : Str → Option Value} {base : Heap} {k : Nat} {f : Addr} {name qual : Str} {params : Arguments} {body : List Stmt} {scope : Scope} {dV kV doc pm cdv ct oc : Value} {an od : Option Addr}
    {osl : Array (Option Value)} {N ps : List Str} {sp : Sp} (lk : K.lookup f = some ⟨oc, od, .func (PySem.W.fnOf name qual params body scope dV kV doc pm an cdv ct), osl⟩) (hcd : PySem.W.codeIn K cdv qual = true) (S : FnScope N ps scope)
    (len : ∀ vs H Q E, sp vs H Q E → vs.length = ps.length)
    (hbody : ∀ (A : Around) (outer : List Env) (s : Shared) (H : Hp) (vs : List V) (Q : VK) (E : XK), Room k (A.deeper (envOfC qual scope s.heap.objs.size f cdv)) → sp vs H Q E →
      ∃ t, PSs (cxOf CX P w K mg base N qual scope f cdv A outer s H E) body t ∧ t { nx := fun _ H' => Q .non H', rt := Q } (start N vs) H) :
    FnOk P w K mg base CX (k + 1) f (PySem.W.fnOf name qual params body scope dV kV doc pm an cdv ct) ps sp := by
  refine ⟨len, fun A outer s H args us vs Q E hr e0 hb r hsp => ?_⟩
  have hl := len _ _ _ _ hsp
  have KX : K.In s.heap := e0.mod.kin.keeps fun b o e => (e0.bs b o e).1
  have lim : s.heap.NoLimit := e0.mod.nolimit.keeps fun b o e => (e0.bs b o e).1
  have hkind : ∀ y ∈ ps.zip us, scope.names.lookup y.1 = some .local ∨ (scope.names.lookup y.1 = some .cell ∧ ((cellsFrom (s.heap.objs.size + 1) scope.names []).lookup y.1).isSome = true) := fun ⟨n, v⟩ hy => by
    rcases S.par n (List.of_mem_zip hy).1 with q | q
    · exact .inl q
    · exact .inr ⟨q, PySem.W.cellsFrom_some _ _ _ (.inl q)⟩
  refine codeAny_call_function hr.depth (KX _ _ lk) rfl S.co S.gen rfl (PySem.W.codeRec_of KX hcd) (hb _ _ _ _ ?_)
  refine wpAny_newFunctionEnv_cells S.kind hkind fun env he s1 x => ?_
  subst he
  refine ⟨lim.keeps x.toInCall.keep, codeAny_func ?_⟩
  obtain ⟨t, ht, hq⟩ := hbody A outer s H vs Q E (hr.deeper _) hsp
  have I : Inv (cxOf CX P w K mg base N qual scope f cdv A outer s H E) [] (start N vs) H s1 := inv_start S hr.hd e0 hl r x
  refine wpAny_mono (ht [] s1 (start N vs) H _ I hq) (fun fl s' hs => ?_) fun e s' hs => hs
  have fin : ∀ {σ' : St} {H' : Hp} {v : V} {u : Value}, Inv (cxOf CX P w K mg base N qual scope f cdv A outer s H E) [] σ' H' s' → RelV v u → Q v H' → CE outer P w H s Q u s' :=
    fun {σ' H' v u} J rv q => ⟨v, H', J.os, J.bare, J.base, J.hok, rv, q⟩
  cases fl with
  | ret u =>
    obtain ⟨v, σ', H', J, rv, q⟩ := hs
    exact fin J rv q
  | next =>
    obtain ⟨σ', H', J, q⟩ := hs
    exact fin (v := V.non) (u := Value.none) J rfl q
  | brk =>
    obtain ⟨_, _, _, q⟩ := hs
    exact False.elim q
  | cont =>
    obtain ⟨_, _, _, q⟩ := hs
    exact False.elim q
end L2

namespace L2
open PySem PySem.Spec PyProof.Rows
section
variable {X : Cx} {x : Str} {p pos : Pos} {e : Expr} {es : List Expr} {t : TA} {id T : String} {r : List V → Hp → VK → Prop}

def tCB (r : List V → Hp → VK → Prop) (t : TA) : TE := fun σ H Q => t σ H fun vs H1 => r vs H1 Q
/-- f(e, ..), f a built-in function -/
theorem pe_callB (hc : CallR X (.builtin id) r) (hg : Gl X x) (hm : X.mg x = none) (hv : bootBuiltins x = some (.builtin id)) (ha : PA X (e :: es) t) (hn : x ≠ "__name__" := by decide) (hdb : (x == ("__debug__" : Str)) = false := by decide)
    (he : starEach (e :: es) X.env = (false, eval e X.env) :: starEach es X.env := by rfl) (hpl : (backTo pos (starEach es X.env)).any (·.1) = false := by rfl) : PE X (.Call (.Name x p) (e :: es) [] pos) (tCB r t) := by
  intro pins s σ H Q I h
  refine wpAny_Call_Name_kw (ld_blt I hg hm hv ?_ hn hdb)
  exact PyProof.Rows.callWith_builtin1 (thn (ha pos pins s σ H _ I h) fun us s1 ⟨vs, H1, I1, r1, q1⟩ => hc pins s1 σ H1 vs us Q I1 r1 q1) he hpl
/-- T(e, ..), T a built-in type -/
theorem pe_callTy (hc : CallR X (.type T) r) (hg : Gl X x) (hm : X.mg x = none) (hv : bootBuiltins x = some (.type T)) (ha : PA X (e :: es) t) (hn : x ≠ "__name__" := by decide) (hdb : (x == ("__debug__" : Str)) = false := by decide)
    (he : starEach (e :: es) X.env = (false, eval e X.env) :: starEach es X.env := by rfl) (hpl : (backTo pos (starEach es X.env)).any (·.1) = false := by rfl) : PE X (.Call (.Name x p) (e :: es) [] pos) (tCB r t) := by
  intro pins s σ H Q I h
  refine wpAny_Call_Name_kw (ld_blt I hg hm hv ?_ hn hdb)
  exact PyProof.Rows.callWith_type1 (thn (ha pos pins s σ H _ I h) fun us s1 ⟨vs, H1, I1, r1, q1⟩ => hc pins s1 σ H1 vs us Q I1 r1 q1) he hpl
/-- T() -/
theorem pe_callTy0 (hc : CallR X (.type T) r) (hg : Gl X x) (hm : X.mg x = none) (hv : bootBuiltins x = some (.type T)) (hn : x ≠ "__name__" := by decide) (hdb : (x == ("__debug__" : Str)) = false := by decide) :
    PE X (.Call (.Name x p) [] [] pos) (tCB r tNil) := by
  intro pins s σ H Q I h
  refine wpAny_Call_Name_kw (ld_blt I hg hm hv ?_ hn hdb)
  exact PyProof.Rows.callWith_type0 (hc pins s σ H [] [] Q I .nil h)
end
end L2

namespace HT
open PySem PyProof.Rows

/-- t < u of tuples of ints -/
def lexLt : List Int → List Int → Bool
  | [], [] => false
  | [], _ :: _ => true
  | _ :: _, [] => false
  | x :: xs, y :: ys => if x = y then lexLt xs ys else decide (x < y)
theorem lexLt_cons (x y : Int) (xs ys : List Int) : lexLt (x :: xs) (y :: ys) = if x = y then lexLt xs ys else decide (x < y) := rfl
theorem lexLt_nil_nil : lexLt [] [] = false := rfl
theorem lexLt_nil_cons (y : Int) (ys : List Int) : lexLt [] (y :: ys) = true := rfl
theorem lexLt_cons_nil (x : Int) (xs : List Int) : lexLt (x :: xs) [] = false := rfl

theorem eqAt_int (A : Around) (s : Shared) (a : Int) (t : Tok) (c : Int) (u : Tok) : ∃ e, SeqAt.EqAt A s (.int a t) (.int c u) e ∧ (e = true ↔ a = c) :=
  ⟨(a == c), SeqAt.EqAt.int_int a t c u, by simp⟩
theorem rcLt_int (A : Around) (s : Shared) (a : Int) (t : Tok) (c : Int) (u : Tok) (prog : Program) (w : World) (E : Value → Shared → Prop) (Q : Value → Shared → Prop) (h : Q (.bool (decide (a < c))) s) :
    wpAny (model prog w) A (richCompare .Lt (.int a t) (.int c u)) Q E s :=
  (PyProof.Rows.lt_int h : wpAny (model prog w) A (compareOp .Lt (.int a t) (.int c u)) Q E s)

section
open PySem.SeqAt
open PySem.AutoSeq1 (wpAny_loadPart')
open PySem.MeetsSeq PySem.MeetsSeq2 PySem.MeetsSeq3

theorem tuple_lt_ints (l b : Addr) (items items2 : Array Value) (n n2 : Nat) (dd dd2 : Option Addr) (sl sl2 : Array (Option Value)) (ns ms : List Int) (hi : IntsAre items.toList ns) (hj : IntsAre items2.toList ms) :
    Meets (Builtin.«tuple.__lt__» ⟨[.ref l, .ref b], []⟩)
      (fun _ R s => s.heap.get? l = some { cls := .type "tuple", dict := dd, data := .seq items n, slots := sl } ∧ s.heap.get? b = some { cls := .type "tuple", dict := dd2, data := .seq items2 n2, slots := sl2 } ∧
        R (.ok (.ret (.bool (lexLt ns ms)))) s) :=
  .of_wp fun prog w A R s h => by
    obtain ⟨hp, g, d, tk, os⟩ := s; obtain ⟨hl, hb, h⟩ := h
    have f2 := AutoSeq1.sub_tuple_tuple
    have z1 : items.size = ns.length := by rw [← hi.length]; simp
    have z2 : items2.size = ms.length := by rw [← hj.length]; simp
    wp_walk using wpAny_loadPart' hl, wpAny_loadPart' hb, wpAny_forIn_list _ (fun rest b s' => b.1 = none ∧ s' = ⟨hp, g, d, tk, os⟩ ∧ ∃ (vs ws : List Value) (ns' ms' : List Int), rest = vs.zip ws ∧
      IntsAre vs ns' ∧ IntsAre ws ms' ∧ ns'.length + items2.size = ms'.length + items.size ∧ R (.ok (.ret (.bool (lexLt ns' ms')))) ⟨hp, g, d, tk, os⟩) _
    case turn =>
      rintro ⟨y, x⟩ rest b s' ⟨hb', rfl, vs, ws, ns', ms', hz, hvi, hwi, hlen, hR⟩
      cases hvi with
      | nil => rw [List.zip_nil_left] at hz; cases hz
      | cons a t hvi' =>
        cases hwi with
        | nil => rw [List.zip_nil_right] at hz; cases hz
        | cons c u hwi' =>
          rw [List.zip_cons_cons] at hz
          injection hz with hyx hrest
          injection hyx with hy hx
          subst hy hx
          rw [lexLt_cons] at hR
          simp only [List.length_cons] at hlen
          obtain ⟨e, he, hiff⟩ := eqAt_int A.in1 ⟨hp, g, d, tk, os⟩ a t c u
          refine wpAny_bind (he prog w _ _ ?_)
          cases e with
          | true =>
            rw [if_pos (hiff.mp rfl)] at hR
            wp_walk
            exact ⟨rfl, rfl, _, _, _, _, hrest, hvi', hwi', by omega, hR⟩
          | false =>
            rw [if_neg (fun q => absurd (hiff.mpr q) Bool.false_ne_true)] at hR
            have hri := rcLt_int A.in1 ⟨hp, g, d, tk, os⟩ a t c u prog w
            wp_walk using hri
            exact ⟨_, rfl, by simpa using hR⟩
    case fin =>
      rintro ⟨b1, b2⟩ s' ⟨hb', rfl, vs, ws, ns', ms', hz, hvi, hwi, hlen, hR⟩
      simp only at hb'
      subst hb'
      have hv : lexLt ns' ms' = decide (items.size < items2.size) := by
        cases hvi with
        | nil =>
          cases hwi with
          | nil =>
            simp only [List.length_nil] at hlen
            rw [lexLt_nil_nil]
            exact (decide_eq_false (by omega)).symm
          | cons c u hw =>
            simp only [List.length_nil, List.length_cons] at hlen
            rw [lexLt_nil_cons]
            exact (decide_eq_true (by omega)).symm
        | cons a t hv =>
          cases hwi with
          | nil =>
            simp only [List.length_nil, List.length_cons] at hlen
            rw [lexLt_cons_nil]
            exact (decide_eq_false (by omega)).symm
          | cons c u hw =>
            rw [List.zip_cons_cons] at hz
            cases hz
      rw [hv] at hR
      wp_walk
      exact ⟨_, rfl, by simpa [Builtin.Tuple.tupleCompareSizes] using hR⟩
    case h =>
      exact ⟨rfl, rfl, items.toList, items2.toList, ns, ms, rfl, hi, hj, by omega, h⟩
end

section
variable {prog : Program} {w : World} {A : Around} {E : Value → Shared → Prop} {s : Shared}

theorem lt_tupInts {l b : Addr} {items items2 : Array Value} {ns ms : List Int} {Q : Value → Shared → Prop} (hl : IsTup s.heap l items) (hb : IsTup s.heap b items2) (hi : IntsAre items.toList ns) (hj : IntsAre items2.toList ms)
    (hu : A.units < cLine) (h : Q (.bool (lexLt ns ms)) s) : wpAny (model prog w) A (compareOp .Lt (.ref l) (.ref b)) Q E s := by
  obtain ⟨⟨cls, dd, data, sl⟩, ho, hc, n, hd⟩ := id hl
  obtain ⟨⟨cls2, dd2, data2, sl2⟩, ho2, hc2, n2, hd2⟩ := id hb
  simp only at hc hd hc2 hd2
  subst hc hd hc2 hd2
  exact richCompare_meets_room (op := .Lt) ⟨_, ho, rfl⟩ ⟨_, ho2, rfl⟩ PySem.F.slot_tuple_lt PySem.F.entry_tuple_lt (PySem.F.args_tuple_lt_2 _ _) (tuple_lt_ints l b items items2 n n2 dd dd2 sl sl2 ns ms hi hj)
    ⟨ho, ho2, show Value.bool (lexLt ns ms) ≠ Value.notImplemented ∧ Q (.bool (lexLt ns ms)) s from ⟨(fun x => nomatch x), h⟩⟩ hu

/-- t + u, t not empty -/
theorem cat_tup {t b : Addr} {vs ws : List Value} {Q : Value → Shared → Prop} (ht : IsTup s.heap t vs.toArray) (hb : IsTup s.heap b ws.toArray) (hv : vs ≠ [])
    (h1 : ws = [] → Q (.ref t) s) (h2 : ws ≠ [] → Q (.ref s.heap.objs.size) { s with heap := s.heap.push { cls := .type "tuple", data := .seq (vs ++ ws).toArray } })
    (hsz : vs.length + ws.length ≤ sizeLine) : wpAny (model prog w) A (binaryOp .Add (.ref t) (.ref b)) Q E s := by
  obtain ⟨⟨cls, dd, data, sl⟩, ho, hc, n, hd⟩ := id ht
  obtain ⟨⟨cls2, dd2, data2, sl2⟩, ho2, hc2, n2, hd2⟩ := id hb
  simp only at hc hd hc2 hd2
  subst hc hd hc2 hd2
  have e : vs.toArray ++ ws.toArray = (vs ++ ws).toArray := by simp
  by_cases hw : ws = []
  · exact concat_meets ⟨_, ho, rfl⟩ ⟨_, ho2, rfl⟩ noFill_tuple_add seq_tuple_add PySem.F.slot_tuple_add PySem.F.entry_tuple_add (PySem.F.args_tuple_add_2 _ _)
      (tuple_addW1 t b vs.toArray ws.toArray n n2 dd dd2 sl sl2 (by simpa using hv) (by simp [hw])) ⟨ho, ho2, h1 hw⟩
  · refine concat_meets ⟨_, ho, rfl⟩ ⟨_, ho2, rfl⟩ noFill_tuple_add seq_tuple_add PySem.F.slot_tuple_add PySem.F.entry_tuple_add (PySem.F.args_tuple_add_2 _ _)
      (tuple_addW2 t b vs.toArray ws.toArray n n2 dd dd2 sl sl2 (by simpa using hv) (by simpa using hw) (by rw [List.size_toArray, List.size_toArray]; exact hsz)) ⟨ho, ho2, ?_⟩
    rw [e]
    exact h2 hw

/-! ### t[a:b], not the whole -/
/-- a slice's bound as a place among n (d where it is left out) -/
def sIx (n d : Nat) : Option Int → Nat
  | none => d
  | some v => if v < 0 then (v + (n : Int)).toNat else min v.toNat n
theorem sIx_none (n d : Nat) : sIx n d none = d := rfl
theorem sIx_nat (n d k : Nat) : sIx n d (some (k : Int)) = min k n := by
  show (if (k : Int) < 0 then ((k : Int) + (n : Int)).toNat else min (k : Int).toNat n) = min k n
  rw [if_neg (by omega), Int.toNat_natCast]
theorem sIx_le (n d : Nat) (hd : d ≤ n) (o : Option Int) : sIx n d o ≤ n := by
  cases o with
  | none => exact hd
  | some v =>
    show (if v < 0 then (v + (n : Int)).toNat else min v.toNat n) ≤ n
    by_cases hv : v < 0
    · rw [if_pos hv]; omega
    · rw [if_neg hv]; exact Nat.min_le_right _ _
theorem clip_eq (v : Int) (n d : Nat) : (if v < 0 then max (v + (n : Int)) 0 else min v (n : Int)) = ((sIx n d (some v) : Nat) : Int) := by
  show (if v < 0 then max (v + (n : Int)) 0 else min v (n : Int)) = (((if v < 0 then (v + (n : Int)).toNat else min v.toNat n) : Nat) : Int)
  by_cases hv : v < 0
  · simp only [if_pos hv]; omega
  · simp only [if_neg hv]; omega
theorem adjust_gen (lo hi : Option Int) (n : Nat) : Builtin.Slice.sliceAdjust lo hi 1 (n : Int) = (((sIx n 0 lo : Nat) : Int), ((sIx n n hi : Nat) : Int)) := by
  have h1 : ¬ ((1 : Int) < 0) := by omega
  unfold Builtin.Slice.sliceAdjust
  simp only [h1, if_false]
  refine Prod.ext ?_ ?_
  · cases lo with
    | none => rfl
    | some v => exact clip_eq v n 0
  · cases hi with
    | none => rfl
    | some v => exact clip_eq v n n
theorem places_gen (i j : Nat) : Builtin.Slice.slicePlaces (i : Int) (j : Int) 1 = j - i := by
  unfold Builtin.Slice.slicePlaces
  have h1 : (1 : Int) > 0 := by omega
  simp only [h1, if_true, Int.ediv_one]
  split <;> omega
theorem slicePart_ {v : Value} {o : Option Int} {Q : Option Int → Shared → Prop} (p : IsPart v o) (h : Q o s) : wpAny (model prog w) A (Builtin.Slice.slicePartIndex v) Q E s := by
  cases p with
  | none => exact slicePart_none h
  | int i t => exact slicePart_int h
theorem sliceApplied_gen {sl : Addr} {vl vu : Value} {lo hi : Option Int} {n : Nat} {Q : Int × Int × Nat → Shared → Prop} (hs : s.heap.IsSliceOf sl vl vu .none) (pl : IsPart vl lo) (pu : IsPart vu hi)
    (h : Q (((sIx n 0 lo : Nat) : Int), 1, sIx n n hi - sIx n 0 lo) s) : wpAny (model prog w) A (Builtin.Slice.sliceApplied (.ref sl) (pure (n : Int))) Q E s := by
  obtain ⟨os, hos, hcs, hds⟩ := id hs
  unfold Builtin.Slice.sliceApplied Builtin.Slice.sliceFields
  refine wpAny_bind (wpAny_bind (wpAny_field hos hds (x := vl) rfl (wpAny_bind (wpAny_field hos hds (x := vu) rfl (wpAny_bind (wpAny_field hos hds (x := .none) rfl (wpAny_pure ?_)))))))
  refine wpAny_bind (slicePart_none ?_)
  show wpAny _ _ (if ((1 : Int) == 0) = true then _ else _) _ _ s
  rw [if_neg (by decide)]
  refine wpAny_bind (slicePart_ pl (wpAny_bind (slicePart_ pu (wpAny_bind (wpAny_pure ?_)))))
  show wpAny _ _ (match Builtin.Slice.sliceAdjust lo hi 1 (n : Int) with | (lo, hi) => pure (lo, (1 : Int), Builtin.Slice.slicePlaces lo hi 1)) _ _ s
  rw [adjust_gen lo hi n]
  show wpAny _ _ (pure (((sIx n 0 lo : Nat) : Int), (1 : Int), Builtin.Slice.slicePlaces ((sIx n 0 lo : Nat) : Int) ((sIx n n hi : Nat) : Int) 1)) _ _ s
  rw [places_gen]
  exact wpAny_pure h
theorem pick_gen (xs : Array Value) (i k : Nat) : ((List.range k).filterMap fun (m : Nat) => xs[((i : Int) + (m : Int) * 1).toNat]?).toArray = ((xs.toList.drop i).take k).toArray := by
  have e : (fun (m : Nat) => xs[((i : Int) + (m : Int) * 1).toNat]?) = fun m => xs[i + m]? := by
    funext m
    have : ((i : Int) + (m : Int) * 1).toNat = i + m := by omega
    rw [this]
  rw [e]
  have := pick_run xs i k
  rw [List.filterMap_map] at this
  have e2 : ((fun x => xs[x]?) ∘ fun x => i + x) = fun m => xs[i + m]? := rfl
  rw [e2] at this
  rw [this]

theorem getItem_tuple_cut {t sl : Addr} {items : Array Value} {vl vu : Value} {lo hi : Option Int} {Q : Value → Shared → Prop} (ht : IsTup s.heap t items) (hs : s.heap.IsSliceOf sl vl vu .none) (pl : IsPart vl lo) (pu : IsPart vu hi)
    (hw : ¬ (sIx items.size 0 lo = 0 ∧ sIx items.size items.size hi = items.size))
    (h : Q (.ref s.heap.objs.size) { s with heap := s.heap.push { cls := .type "tuple", data := .seq ((items.toList.drop (sIx items.size 0 lo)).take (sIx items.size items.size hi - sIx items.size 0 lo)).toArray } })
    (hsz : items.size ≤ sizeLine) : wpAny (model prog w) A (getItem (.ref t) (.ref sl)) Q E s := by
  have htake : sizeOk (.seq ((items.toList.drop (sIx items.size 0 lo)).take (sIx items.size items.size hi - sIx items.size 0 lo)).toArray) := by
    show ((items.toList.drop (sIx items.size 0 lo)).take (sIx items.size items.size hi - sIx items.size 0 lo)).toArray.size ≤ sizeLine
    rw [List.size_toArray, List.length_take, List.length_drop, Array.length_toList]
    omega
  have hj : sIx items.size items.size hi ≤ items.size := sIx_le _ _ (Nat.le_refl _) hi
  obtain ⟨os, hos, hcs, hds⟩ := id hs
  have hTs : s.TypeIs (.ref sl) "slice" := ⟨os, hos, hcs⟩
  unfold getItem
  try with_reducible refine wpAny_holding ?_
  first | refine wpAny_bind (wpAny_pure ?_) | skip
  refine wpAny_bind (wpAny_sequenceKey ht.typeIs (by decide) ?_)
  refine wpAny_bind (wpAny_callSpecial?_slot (name := Str.ofString "__getitem__") ht.typeIs PyProof.Rows.slot_tuple_getitem
    (wpAny_call_entry PyProof.Rows.slot_tuple_getitem ht.typeIs entry_tuple_getitem ?_ (args_tuple_getitem _ _)))
  show wpAny _ _ (Builtin.Tuple.tupleItemsOf (.ref t) >>= _) _ _ s
  refine wpAny_bind (tupleItemsOf_ ht ?_)
  refine wpAny_bind (wpAny_typeOf hTs ?_)
  rw [if_pos (by decide)]
  refine wpAny_bind (sliceApplied_gen hs pl pu ?_)
  have hno : ¬ ((((sIx items.size 0 lo : Nat) : Int) == 0 && (1 : Int) == 1 && (sIx items.size items.size hi - sIx items.size 0 lo) == items.size) = true) := by
    intro q
    rw [Bool.and_eq_true, Bool.and_eq_true] at q
    have q1 : ((sIx items.size 0 lo : Nat) : Int) = 0 := eq_of_beq q.1.1
    have q2 : sIx items.size items.size hi - sIx items.size 0 lo = items.size := eq_of_beq q.2
    exact hw ⟨by omega, by omega⟩
  show wpAny _ _ (if (((sIx items.size 0 lo : Nat) : Int) == 0 && (1 : Int) == 1 && (sIx items.size items.size hi - sIx items.size 0 lo) == items.size) = true then _ else _) _ _ s
  rw [if_neg hno, pick_gen]
  first
    | exact wpAny_bind (m := Builtin.Tuple.tupleExact _) (wpAny_newObj_type (wpAny_pure ⟨_, rfl, wpAny_pure h⟩) htake)
    | exact wpAny_bind (m := Builtin.Tuple.tupleExact _) (wpAny_newObj_type (wpAny_bind (wpAny_pure (wpAny_pure ⟨_, rfl, wpAny_pure h⟩))) htake)
    | exact wpAny_bind (wpAny_bind (m := Builtin.Tuple.tupleExact _) (wpAny_newObj_type (wpAny_pure (wpAny_pure ⟨_, rfl, wpAny_pure h⟩)) htake))
    | exact wpAny_bind (wpAny_bind (m := Builtin.Tuple.tupleExact _) (wpAny_newObj_type (wpAny_pure ⟨_, rfl, wpAny_pure h⟩) htake))
end
end HT

namespace L2
open PySem PySem.Spec PyProof.Rows

/-! ### the parts of a slice -/
abbrev TO := St → Hp → (Option Int → Hp → Prop) → Prop
/-- a slice's part (left out, or an int) -/
def PO (X : Cx) (e : Option Expr) (t : TO) : Prop :=
  ∀ (pins : List (Addr × Obj)) (s : Shared) (σ : St) (H : Hp) (Q : Option Int → Hp → Prop), Inv X pins σ H s → t σ H Q →
    wpAny (model X.prog X.w) X.A (evalPart e X.env) (fun u s' => ∃ o H', Inv X pins σ H' s' ∧ IsPart u o ∧ Q o H') X.xe s
def tNoPart : TO := fun _ H Q => Q none H
def tPart (t : TE) : TO := fun σ H Q => t σ H fun x H1 => ∃ i, x = .int i ∧ Q (some i) H1

theorem intsAre_of {ns : List Int} : ∀ {us : List Value}, Vals (ns.map V.int) us → IntsAre us ns := by
  induction ns with
  | nil => intro us r; rw [List.map_nil] at r; cases r; exact .nil
  | cons n ns ih =>
    intro us r
    rw [List.map_cons] at r
    cases r with
    | cons r1 r2 =>
      obtain ⟨t, e⟩ := r1
      subst e
      exact .cons n t (ih r2)

section
variable {X : Cx} {e : Expr} {te : TE} {lo hi : Option Expr} {tl th : TO} {pos p2 : Pos}

theorem po_none : PO X none tNoPart := by
  intro pins s σ H Q I h
  rw [evalPart_none]
  exact wpAny_pure ⟨none, H, I, .none, h⟩
theorem po_some (h : PE X e te) : PO X (some e) (tPart te) := by
  intro pins s σ H Q I hw
  rw [evalPart_some]
  refine thn (h pins s σ H _ I hw) fun u s1 ⟨x, H1, I1, r1, q1⟩ => ?_
  obtain ⟨i, rfl, q⟩ := q1
  obtain ⟨t, rfl⟩ := r1
  exact ⟨some i, H1, I1, .int i t, q⟩

/-- what a slice of a value is, by values: the slice object stands at sl -/
def SlR (X : Cx) (r : V → Option Int → Option Int → Hp → VK → Prop) : Prop :=
  ∀ (pins : List (Addr × Obj)) (s : Shared) (σ : St) (H : Hp) (x : V) (v vl vu : Value) (lo hi : Option Int) (sl : Addr) (Q : VK), Inv X pins σ H s → RelV x v → s.heap.IsSliceOf sl vl vu .none → IsPart vl lo → IsPart vu hi → r x lo hi H Q →
    ∃ T id, typeLookup (.type T) "__getitem__" = pure (some (.builtin id)) ∧ s.TypeIs v T ∧ wpAny (model X.prog X.w) X.A (getItem v (.ref sl)) (EP X pins σ Q) X.xe s
theorem SlR.or {r r' : V → Option Int → Option Int → Hp → VK → Prop} (h : SlR X r) (h' : SlR X r') : SlR X (fun x lo hi H Q => r x lo hi H Q ∨ r' x lo hi H Q) := by
  intro pins s σ H x v vl vu lo hi sl Q I rx hs pl pu q
  rcases q with q | q
  · exact h pins s σ H x v vl vu lo hi sl Q I rx hs pl pu q
  · exact h' pins s σ H x v vl vu lo hi sl Q I rx hs pl pu q
def tSl (r : V → Option Int → Option Int → Hp → VK → Prop) (te : TE) (tl th : TO) : TE := fun σ H Q => te σ H fun x H1 => tl σ H1 fun l H2 => th σ H2 fun u H3 => r x l u H3 Q
/-- a[lo:hi], any a -/
theorem pe_slice {r : V → Option Int → Option Int → Hp → VK → Prop} (hr : SlR X r) (he : PE X e te) (hl : PO X lo tl) (hu : PO X hi th) : PE X (.Subscript e (.Slice lo hi none p2) pos) (tSl r te tl th) := by
  intro pins s σ H Q I h
  refine Subscript_ (thn (he pins s σ H _ I h) fun v s1 ⟨x, H1, I1, r1, q1⟩ => ?_)
  refine wpAny_Slice (thn (hl pins s1 σ H1 _ I1 q1) fun vl s2 ⟨l, H2, I2, pl, q2⟩ => thn (hu pins s2 σ H2 _ I2 q2) fun vu s3 ⟨u, H3, I3, pu, q3⟩ => ?_)
  rw [evalPart_none]
  refine wpAny_pure ?_
  have I4 : Inv X pins σ H3 { s3 with heap := s3.heap.push { cls := .type "slice", data := .fields #[vl, vu, .none] } } := I3.kept (t' := s3.toks) fun b ob q => Heap.get?_push_of_some _ q
  obtain ⟨T, id, hT, ht, hg⟩ := hr pins { s3 with heap := s3.heap.push { cls := .type "slice", data := .fields #[vl, vu, .none] } } σ H3 x v vl vu l u s3.heap.objs.size Q I4 r1 (Heap.IsSliceOf.new ..) pl pu q3
  show wpAny (model X.prog X.w) X.A (subscriptTail e (.Slice lo hi none p2) v (.ref s3.heap.objs.size)) (EP X pins σ Q) X.xe { s3 with heap := s3.heap.push { cls := .type "slice", data := .fields #[vl, vu, .none] } }
  exact tail_any (ops := [.ref s3.heap.objs.size, v]) ht hT hg (by with_unfolding_all rfl)

/-- the items of xs[lo:hi] -/
def cutV (xs : List V) (lo hi : Option Int) : List V := (xs.drop (HT.sIx xs.length 0 lo)).take (HT.sIx xs.length xs.length hi - HT.sIx xs.length 0 lo)
theorem cutV_length (xs : List V) (lo hi : Option Int) : (cutV xs lo hi).length ≤ xs.length := by
  unfold cutV
  rw [List.length_take, List.length_drop]
  omega
/-- t[lo:hi], not the whole of it (the whole would be t itself) -/
def rSlT (K : PySem.W.Frag) : V → Option Int → Option Int → Hp → VK → Prop := fun x lo hi H Q => ∃ a xs, x = .ref a ∧ SqT K H a xs ∧
  ¬ (HT.sIx xs.length 0 lo = 0 ∧ HT.sIx xs.length xs.length hi = xs.length) ∧ ∀ p, H p = none → Q (.ref p) (upd H p (.tup (cutV xs lo hi)))
theorem sl_tup : SlR X (rSlT X.K) := by
  intro pins s σ H x v vl vu lo hi sl Q I rx hs pl pu h
  obtain ⟨a, xs, rfl, hx, hw, q⟩ := h
  cases rx
  obtain ⟨its, r, ht, hz⟩ := I.tuple hx
  have hlen : its.toArray.size = xs.length := by rw [List.size_toArray]; exact r.length.symm
  refine ⟨"tuple", _, PyProof.Rows.slot_tuple_getitem.lookup, ht.typeIs, ?_⟩
  refine HT.getItem_tuple_cut ht hs pl pu (by rw [hlen]; exact hw) ?_ (by rw [hlen]; exact hz)
  rw [hlen]
  refine ⟨.ref s.heap.objs.size, _, I.laid (t' := s.toks) (o := .tup (cutV xs lo hi)) (fun b ob q => Heap.get?_push_of_some _ q) (Nat.le_refl _) ?_, rfl, q _ (I.hok.fresh (Nat.le_refl _))⟩
  exact ⟨Nat.le_trans (cutV_length xs lo hi) hz, _, (r.drop (HT.sIx xs.length 0 lo)).take (HT.sIx xs.length xs.length hi - HT.sIx xs.length 0 lo), IsTup.new _ _⟩

/-! ### t < u, t + u -/
def rLtT (K : PySem.W.Frag) : R2 := fun x y H Q => ∃ a b ns ms, x = .ref a ∧ y = .ref b ∧ SqT K H a (ns.map V.int) ∧ SqT K H b (ms.map V.int) ∧ Q (.bl (HT.lexLt ns ms)) H
theorem op_ltT (hu : X.A.units < cLine) : OpR X (compareOp .Lt) (rLtT X.K) := by
  intro pins s σ H x y v u Q I rx ry h
  obtain ⟨a, b, ns, ms, rfl, rfl, ha, hb, q⟩ := h
  cases rx
  cases ry
  obtain ⟨its, r1, p1, _⟩ := I.tuple ha
  obtain ⟨its2, r2, p2, _⟩ := I.tuple hb
  have i1 : IntsAre its.toArray.toList ns := intsAre_of r1
  have i2 : IntsAre its2.toArray.toList ms := intsAre_of r2
  exact HT.lt_tupInts p1 p2 i1 i2 hu ⟨.bl (HT.lexLt ns ms), H, I, rfl, q⟩
/-- t + u, t not empty: u empty gives t itself -/
def rCatT (K : PySem.W.Frag) : R2 := fun x y H Q => ∃ a b xs ys, x = .ref a ∧ y = .ref b ∧ SqT K H a xs ∧ SqT K H b ys ∧ xs ≠ [] ∧ xs.length + ys.length ≤ sizeLine ∧
  (ys = [] → Q (.ref a) H) ∧ (ys ≠ [] → ∀ p, H p = none → Q (.ref p) (upd H p (.tup (xs ++ ys))))
theorem Vals.nil_iff {xs : List V} {us : List Value} (r : Vals xs us) : us = [] ↔ xs = [] := by
  cases r with
  | nil => simp
  | cons _ _ => simp
theorem op_catT : OpR X (binaryOp .Add) (rCatT X.K) := by
  intro pins s σ H x y v u Q I rx ry h
  obtain ⟨a, b, xs, ys, rfl, rfl, ha, hb, hx, hz, q1, q2⟩ := h
  cases rx
  cases ry
  obtain ⟨its, r1, p1, _⟩ := I.tuple ha
  obtain ⟨its2, r2, p2, _⟩ := I.tuple hb
  refine HT.cat_tup p1 p2 (fun z => hx (r1.nil_iff.mp z)) (fun z => ⟨.ref a, H, I, rfl, q1 (r2.nil_iff.mp z)⟩) (fun z => ?_) (by rw [← r1.length, ← r2.length]; exact hz)
  refine ⟨.ref s.heap.objs.size, _, I.laid (t' := s.toks) (o := .tup (xs ++ ys)) (fun b ob q => Heap.get?_push_of_some _ q) (Nat.le_refl _) ?_, rfl, q2 (fun w => z (r2.nil_iff.mpr w)) _ (I.hok.fresh (Nat.le_refl _))⟩
  exact ⟨by rw [List.length_append]; exact hz, _, r1.append r2, IsTup.new _ _⟩
/-- tuple(t) -/
theorem call_tupleT : CallR X (.type "tuple") (fun xs H Q => ∃ a ys, xs = [.ref a] ∧ SqT X.K H a ys ∧ Q (.ref a) H) := by
  intro pins s σ H xs us Q I r h
  obtain ⟨a, ys, rfl, ha, q⟩ := h
  obtain ⟨u, rfl, ru⟩ := vals1 r
  cases ru
  obtain ⟨its, _, p1, _⟩ := I.tuple ha
  exact call_tuple_same (items := its.toArray) p1 ⟨.ref a, H, I, rfl, q⟩
end
end L2

namespace L2
open PySem PySem.Spec PyProof.Rows

/-! ### places -/
/-- the place that an index of any sign means -/
def ixN (n : Nat) (i : Int) : Option Nat := if 0 ≤ i then (if i < n then some i.toNat else none) else if -(n : Int) ≤ i then some (i + n).toNat else none
def atI {α : Type} (xs : List α) (i : Int) : Option α := (ixN xs.length i).bind fun j => xs[j]?
theorem ixN_seq {n : Nat} {i : Int} {j : Nat} (h : ixN n i = some j) : seqIndex? i n = some j ∧ j < n ∧ -(n : Int) ≤ i ∧ i < n := by
  unfold ixN at h
  by_cases h0 : 0 ≤ i
  · rw [if_pos h0] at h
    by_cases h1 : i < n
    · rw [if_pos h1] at h
      have e : i.toNat = j := Option.some.inj h
      exact ⟨by rw [seqIndex_of h0 h1, e], by omega, by omega, h1⟩
    · rw [if_neg h1] at h; cases h
  · rw [if_neg h0] at h
    by_cases h1 : -(n : Int) ≤ i
    · rw [if_pos h1] at h
      have e : (i + n).toNat = j := Option.some.inj h
      exact ⟨by rw [seqIndex_neg (by omega) h1, e], by omega, h1, by omega⟩
    · rw [if_neg h1] at h; cases h
theorem atI_get {α : Type} {xs : List α} {i : Int} {v : α} (h : atI xs i = some v) : ∃ j, seqIndex? i xs.length = some j ∧ xs[j]? = some v ∧ j < xs.length ∧ -(xs.length : Int) ≤ i ∧ i < xs.length := by
  unfold atI at h
  cases e : ixN xs.length i with
  | none => rw [e] at h; cases h
  | some j =>
    rw [e] at h
    obtain ⟨h1, h2, h3, h4⟩ := ixN_seq e
    exact ⟨j, h1, h, h2, h3, h4⟩
theorem atI_nat {α : Type} {xs : List α} {j : Nat} {v : α} (h : xs[j]? = some v) : atI xs (j : Int) = some v := by
  have hj : j < xs.length := (List.getElem?_eq_some_iff.mp h).1
  have e : ixN xs.length (j : Int) = some j := by
    unfold ixN
    rw [if_pos (by omega), if_pos (by omega)]; simp
  unfold atI; rw [e]; exact h
theorem atI_last {α : Type} (xs : List α) (v : α) : atI (xs ++ [v]) (-1) = some v := by
  have hl : (xs ++ [v]).length = xs.length + 1 := by simp
  have e : ixN (xs ++ [v]).length (-1) = some xs.length := by
    unfold ixN
    rw [hl, if_neg (by decide), if_pos (by omega)]
    congr 1
    omega
  unfold atI
  rw [e]
  show (xs ++ [v])[xs.length]? = some v
  simp

/-! ### what may be subscripted -/
/-- what stands as an index of a plain subscript -/
def PlainIx (b : Expr) : Prop := ∀ o i, subscripted b false o i = operate [o, i] (getItem o i)
/-- a subscript by values -/
def IxR (X : Cx) (r : R2) : Prop :=
  ∀ (value slice : Expr) (pins : List (Addr × Obj)) (s : Shared) (σ : St) (H : Hp) (x y : V) (v u : Value) (Q : VK), Inv X pins σ H s → RelV x v → RelV y u → r x y H Q →
    subscripted slice false v u = operate [v, u] (getItem v u) → wpAny (model X.prog X.w) X.A (subscriptTail value slice v u) (EP X pins σ Q) X.xe s
/-- a call of a builtin's method by values: the receiver, the arguments -/
def MtR (X : Cx) (id : String) (r : V → List V → Hp → VK → Prop) : Prop :=
  ∀ (pins : List (Addr × Obj)) (s : Shared) (σ : St) (H : Hp) (x : V) (xs : List V) (v : Value) (us : List Value) (Q : VK), Inv X pins σ H s → RelV x v → Vals xs us → r x xs H Q →
    wpAny (model X.prog X.w) X.A (call (.builtin id) (v :: us)) (EP X pins σ Q) X.xe s
section
variable {X : Cx} {a b : Expr} {ta tb : TE} {pos : Pos}
theorem IxR.or {r r' : R2} (h : IxR X r) (h' : IxR X r') : IxR X (fun x y H Q => r x y H Q ∨ r' x y H Q) := by
  intro value slice pins s σ H x y v u Q I rx ry q hs
  rcases q with q | q
  · exact h value slice pins s σ H x y v u Q I rx ry q hs
  · exact h' value slice pins s σ H x y v u Q I rx ry q hs
theorem MtR.or {id : String} {r r' : V → List V → Hp → VK → Prop} (h : MtR X id r) (h' : MtR X id r') : MtR X id (fun x xs H Q => r x xs H Q ∨ r' x xs H Q) := by
  intro pins s σ H x xs v us Q I rx rs q
  rcases q with q | q
  · exact h pins s σ H x xs v us Q I rx rs q
  · exact h' pins s σ H x xs v us Q I rx rs q
/-- a[b] -/
theorem pe_ix {r : R2} (hr : IxR X r) (ha : PE X a ta) (hb : PE X b tb) (hs : PlainIx b) : PE X (.Subscript a b pos) (tOp r ta tb) := by
  intro pins s σ H Q I h
  exact Subscript_ (binT ha hb I h fun v u s2 x y H2 I2 rx ry q => hr a b pins s2 σ H2 x y v u Q I2 rx ry q (hs _ _))

def rIxL (K : PySem.W.Frag) : R2 := fun x y H Q => ∃ p xs i v, x = .ref p ∧ y = .int i ∧ SqL K H p xs ∧ atI xs i = some v ∧ Q v H
def rIxT (K : PySem.W.Frag) : R2 := fun x y H Q => ∃ p xs i v, x = .ref p ∧ y = .int i ∧ SqT K H p xs ∧ atI xs i = some v ∧ Q v H
def rIxS : R2 := fun x y H Q => ∃ z i c, x = .str z ∧ y = .int i ∧ z.length ≤ sizeLine ∧ atI z.cps.toList i = some c ∧ Q (.str ⟨#[c]⟩) H
theorem ix_list : IxR X (rIxL X.K) := by
  intro value slice pins s σ H x y v u Q I rx ry h hs
  obtain ⟨p, xs, i, z, rfl, rfl, hq, he, q⟩ := h
  cases rx
  obtain ⟨t, rfl⟩ := ry
  obtain ⟨its, r, pl, hz⟩ := I.list hq
  obtain ⟨j, h1, h2, h3, h4, h5⟩ := atI_get he
  obtain ⟨w, ew, rw'⟩ := r.get h2
  have hl := r.length
  have hn := line63
  have fin : EP X pins σ Q w s := ⟨z, H, I, rw', q⟩
  by_cases h0 : 0 ≤ i
  · have hj : i.toNat = j := by
      rw [seqIndex_of h0 h5] at h1
      exact Option.some.inj h1
    exact item_listR pl.isList h0 (by omega) (by rw [hj]; simpa using ew) fin hs
  · have hj : (i + (its.toArray.size : Int)).toNat = j := by
      rw [seqIndex_neg (by omega) h4] at h1
      rw [List.size_toArray, ← hl]
      exact Option.some.inj h1
    exact subscriptTail_builtinR (x := w) pl.isList.typeIs slot_list_getitem.lookup
      (wpAny_getItem_list_neg (Q := fun r s' => r = w ∧ EP X pins σ Q r s') pl.isList (by omega) (by rw [List.size_toArray] <;> omega) (by omega) (by rw [hj]; simpa using ew) ⟨rfl, fin⟩) hs
theorem ix_tup : IxR X (rIxT X.K) := by
  intro value slice pins s σ H x y v u Q I rx ry h hs
  obtain ⟨p, xs, i, z, rfl, rfl, hq, he, q⟩ := h
  cases rx
  obtain ⟨t, rfl⟩ := ry
  obtain ⟨its, r, pl, hz⟩ := I.tuple hq
  obtain ⟨j, h1, h2, h3, h4, h5⟩ := atI_get he
  obtain ⟨w, ew, rw'⟩ := r.get h2
  have hl := r.length
  have hn := line63
  have fin : EP X pins σ Q w s := ⟨z, H, I, rw', q⟩
  exact subscriptTail_builtinR (x := w) pl.typeIs slot_tuple_getitem.lookup
    (getItem_tuple (j := j) (Q := fun r s' => r = w ∧ EP X pins σ Q r s') pl (by omega) (by omega) (by rw [List.size_toArray, ← hl]; exact h1) (by simpa using ew) ⟨rfl, fin⟩) hs
theorem ix_str : IxR X rIxS := by
  intro value slice pins s σ H x y v u Q I rx ry h hs
  obtain ⟨z, i, c, rfl, rfl, hz, he, q⟩ := h
  obtain ⟨t, rfl⟩ := rx
  obtain ⟨t', rfl⟩ := ry
  obtain ⟨j, h1, h2, h3, h4, h5⟩ := atI_get he
  have hl : z.cps.toList.length = z.length := by simp [Str.length]
  rw [hl] at h1 h4 h5
  have hn := line63
  exact tail_any (typeIs_str s z t) slot_str_getitem.lookup (getItem_str (c := c) (by
    have e1 : decide (i < -(2 ^ 63 : Int)) = false := decide_eq_false (by omega)
    have e2 : decide (i ≥ 2 ^ 63) = false := decide_eq_false (by omega)
    rw [e1, e2, Bool.or_false]) (by rw [h1]; simpa using h2) ⟨.str ⟨#[c]⟩, H, I.tok _, ⟨_, rfl⟩, q⟩) hs
/-- list, tuple or str -/
def rIx (K : PySem.W.Frag) : R2 := fun x y H Q => rIxL K x y H Q ∨ rIxT K x y H Q ∨ rIxS x y H Q
theorem ix_seq : IxR X (rIx X.K) := ix_list.or (ix_tup.or ix_str)

/-! ### xs[i] = v, any sign -/
/-- the list's object behind a store -/
theorem mapSeq_set (its : List Value) (n j : Nat) (u : Value) : Obj.mapSeq (·.setIfInBounds j u) { cls := .type "list", data := .seq its.toArray n } = { cls := .type "list", data := .seq (its.set j u).toArray n } := by
  simp [Obj.mapSeq]
theorem Inv.lst {pins : List (Addr × Obj)} {σ : St} {H : Hp} {s : Shared} {p : Addr} {xs : List V} (I : Inv X pins σ H s) (h : H p = some (.lst xs)) :
    ∃ (its : List Value) (n : Nat), Vals xs its ∧ s.heap.get? p = some { cls := .type "list", data := .seq its.toArray n } ∧ xs.length ≤ sizeLine := by
  obtain ⟨z, its, n, r, e⟩ := I.hok p _ h
  exact ⟨its, n, r, e, z⟩
/-- the list at p is written by an update of its object -/
theorem Inv.lstUpd {pins : List (Addr × Obj)} {σ : St} {H : Hp} {s : Shared} {p : Addr} {xs ys : List V} {its its' : List Value} {n n' : Nat} {f : Obj → Obj} (I : Inv X pins σ H s) (h : H p = some (.lst xs))
    (ho : s.heap.get? p = some { cls := .type "list", data := .seq its.toArray n }) (hf : f { cls := .type "list", data := .seq its.toArray n } = { cls := .type "list", data := .seq its'.toArray n' }) (r : Vals ys its') (hz : ys.length ≤ sizeLine) (t : Nat) :
    Inv X pins σ (upd H p (.lst ys)) { s with heap := s.heap.update p f, toks := t } := by
  have e : (s.heap.update p f).get? p = some { cls := .type "list", data := .seq its'.toArray n' } := by
    rw [Heap.get?_update_self f ho (by rw [hf] <;> rfl), hf]
  refine I.write (x := p) (e := p) (by rw [h]; trivial) (.inl rfl) (fun b u hb q => (Heap.get?_update_other _ _ (Ne.symm hb)).trans q) ⟨_, e⟩ ?_
  exact ⟨hz, its', n', r, e⟩
def rSetL : V → V → V → Hp → (Hp → Prop) → Prop := fun o i v H Q => ∃ p xs k j, o = .ref p ∧ i = .int k ∧ H p = some (.lst xs) ∧ ixN xs.length k = some j ∧ Q (upd H p (.lst (xs.set j v)))
theorem set_list : PSet X rSetL := by
  intro pins s σ H o i v ov iv u Q I ro ri rv h
  obtain ⟨p, xs, k, j, rfl, rfl, hp, hj, q⟩ := h
  cases ro
  obtain ⟨t, rfl⟩ := ri
  obtain ⟨its, n, r, ho, hz⟩ := I.lst hp
  obtain ⟨h1, h2, h3, h4⟩ := ixN_seq hj
  have hl := r.length
  have hn := line63
  have I' : Inv X pins σ (upd H p (.lst (xs.set j v))) { s with heap := s.heap.update p (Obj.mapSeq (·.setIfInBounds j u)) } :=
    I.lstUpd hp ho (mapSeq_set its n j u) (r.set rv j) (by rw [List.length_set]; exact hz) s.toks
  by_cases h0 : 0 ≤ k
  · have hk : k.toNat = j := by
      rw [seqIndex_of h0 h4] at h1
      exact Option.some.inj h1
    exact PySem.W.ki_setAt ho h0 (by omega) (by rw [List.size_toArray, ← hl]; exact h4) (by rw [hk]; exact ⟨_, I', q⟩)
  · have hk : (k + (its.toArray.size : Int)).toNat = j := by
      rw [seqIndex_neg (by omega) h3] at h1
      rw [List.size_toArray, ← hl]
      exact Option.some.inj h1
    exact PySem.W.ki_setBack ho (by omega) (by rw [List.size_toArray, ← hl]; exact h3) (by omega) (by rw [hk]; exact ⟨_, I', q⟩)

/-! ### slices -/
theorem slice_bounds (lo hi : Option Int) (n : Nat) : (sliceBounds lo hi none n).1 = ((HT.sIx n 0 lo : Nat) : Int) ∧ (sliceBounds lo hi none n).2.1 = ((HT.sIx n n hi : Nat) : Int) ∧ (sliceBounds lo hi none n).2.2 = 1 := by
  refine ⟨?_, ?_, rfl⟩
  · cases lo with
    | none => simp [sliceBounds, HT.sIx]
    | some i =>
      simp only [sliceBounds, HT.sIx, Option.getD_none, show (1 : Int) > 0 by decide, if_true]
      by_cases h : i < 0
      · simp only [h, if_true] <;> omega
      · simp only [h, if_false] <;> omega
  · cases hi with
    | none => simp [sliceBounds, HT.sIx]
    | some i =>
      simp only [sliceBounds, HT.sIx, Option.getD_none, show (1 : Int) > 0 by decide, if_true]
      by_cases h : i < 0
      · simp only [h, if_true] <;> omega
      · simp only [h, if_false] <;> omega
theorem slicePick_cut (its : List Value) (lo hi : Option Int) : slicePick its.toArray lo hi none = ((its.drop (HT.sIx its.length 0 lo)).take (HT.sIx its.length its.length hi - HT.sIx its.length 0 lo)).toArray := by
  obtain ⟨h1, h2, h3⟩ := slice_bounds lo hi its.toArray.size
  unfold slicePick
  rw [h1, h2, h3]
  simp only [sliceRange_one, pick_run, List.size_toArray] <;> rfl
/-- xs[lo:hi] of a list: a new list -/
def rSlL (K : PySem.W.Frag) : V → Option Int → Option Int → Hp → VK → Prop := fun x lo hi H Q => ∃ a xs, x = .ref a ∧ SqL K H a xs ∧ ∀ p, H p = none → Q (.ref p) (upd H p (.lst (cutV xs lo hi)))
theorem sl_list : SlR X (rSlL X.K) := by
  intro pins s σ H x v vl vu lo hi sl Q I rx hs pl pu h
  obtain ⟨a, xs, rfl, hx, q⟩ := h
  cases rx
  obtain ⟨its, r, ht, hz⟩ := I.list hx
  have hlen := r.length
  refine ⟨"list", _, slot_list_getitem.lookup, ht.isList.typeIs, ?_⟩
  refine wpAny_getItem_list_slice ht.isList hs pl pu .none (by simp) ?_ (by rw [List.size_toArray] <;> omega)
  rw [slicePick_cut, ← hlen]
  refine ⟨.ref s.heap.objs.size, _, I.laid (t' := s.toks) (o := .lst (cutV xs lo hi)) (fun b ob q => Heap.get?_push_of_some _ q) (Nat.le_refl _) ?_, rfl, q _ (I.hok.fresh (Nat.le_refl _))⟩
  exact ⟨Nat.le_trans (cutV_length xs lo hi) hz, _, 0, (r.drop (HT.sIx xs.length 0 lo)).take (HT.sIx xs.length xs.length hi - HT.sIx xs.length 0 lo), Heap.get?_push_size _ rfl⟩

/-! ### in, not in: flat items -/
def flatV : V → Bool
  | .non => true
  | .bl _ => true
  | .int _ => true
  | .str _ => true
  | _ => false
/-- == of flat values -/
def eqV : V → V → Bool
  | .non, .non => true
  | .bl a, .bl b => a == b
  | .bl a, .int b => (if a then 1 else 0) == b
  | .int a, .bl b => a == (if b then 1 else 0)
  | .int a, .int b => a == b
  | .str a, .str b => a == b
  | _, _ => false
theorem eqAt_V {A : Around} {s : Shared} {y x : V} {u v : Value} (ry : RelV y u) (rx : RelV x v) (fy : flatV y = true) (fx : flatV x = true) : SeqAt.EqAt A s u v (eqV y x) := by
  cases y with
  | non =>
    cases ry
    cases x with
    | non => cases rx; exact SeqAt.EqAt.same _
    | bl b => cases rx; exact SeqAt.EqAt.none_bool b
    | int b => obtain ⟨t, rfl⟩ := rx; exact SeqAt.EqAt.none_int b t
    | str b => obtain ⟨t, rfl⟩ := rx; exact SeqAt.EqAt.none_str b t
    | _ => exact absurd (show false = true from fx) Bool.false_ne_true
  | bl a =>
    cases ry
    cases x with
    | non => cases rx; exact SeqAt.EqAt.bool_none a
    | bl b => cases rx; exact SeqAt.EqAt.bool_bool a b
    | int b => obtain ⟨t, rfl⟩ := rx; exact SeqAt.EqAt.bool_int a b t
    | str b => obtain ⟨t, rfl⟩ := rx; exact SeqAt.EqAt.bool_str a b t
    | _ => exact absurd (show false = true from fx) Bool.false_ne_true
  | int a =>
    obtain ⟨t', rfl⟩ := ry
    cases x with
    | non => cases rx; exact SeqAt.EqAt.int_none a t'
    | bl b => cases rx; exact SeqAt.EqAt.int_bool a t' b
    | int b => obtain ⟨t, rfl⟩ := rx; exact SeqAt.EqAt.int_int a t' b t
    | str b => obtain ⟨t, rfl⟩ := rx; exact SeqAt.EqAt.int_str a t' b t
    | _ => exact absurd (show false = true from fx) Bool.false_ne_true
  | str a =>
    obtain ⟨t', rfl⟩ := ry
    cases x with
    | non => cases rx; exact SeqAt.EqAt.str_none a t'
    | bl b => cases rx; exact SeqAt.EqAt.str_bool a t' b
    | int b => obtain ⟨t, rfl⟩ := rx; exact SeqAt.EqAt.str_int a t' b t
    | str b => obtain ⟨t, rfl⟩ := rx; exact SeqAt.EqAt.str_str a t' b t
    | _ => exact absurd (show false = true from fx) Bool.false_ne_true
  | _ => exact absurd (show false = true from fy) Bool.false_ne_true
/-- the items' answers, read off the values (a value's own answer does not lean on its token) -/
def eqU (x : V) (u : Value) : Bool := match u with
  | .none => eqV .non x
  | .bool b => eqV (.bl b) x
  | .int i _ => eqV (.int i) x
  | .str z _ => eqV (.str z) x
  | _ => false
theorem eqU_of {x y : V} {u : Value} (r : RelV y u) (f : flatV y = true) : eqU x u = eqV y x := by
  cases y with
  | non => cases r; rfl
  | bl b => cases r; rfl
  | int i => obtain ⟨t, rfl⟩ := r; rfl
  | str z => obtain ⟨t, rfl⟩ := r; rfl
  | _ => exact absurd (show false = true from f) Bool.false_ne_true
theorem any_eqU {x : V} : ∀ {xs : List V} {us : List Value}, Vals xs us → xs.all flatV = true → us.any (eqU x) = xs.any fun y => eqV y x
  | _, _, .nil, _ => rfl
  | y :: xs, u :: us, .cons r t, f => by
    rw [List.all_cons, Bool.and_eq_true] at f
    rw [List.any_cons, List.any_cons, eqU_of r f.1, any_eqU t f.2]
theorem mem_eqAt {A : Around} {s : Shared} {x : V} {v : Value} (rx : RelV x v) (fx : flatV x = true) : ∀ {xs : List V} {us : List Value}, Vals xs us → xs.all flatV = true → ∀ u ∈ us, SeqAt.EqAt A s u v (eqU x u)
  | _, _, .nil, _ => fun u hu => by cases hu
  | y :: xs, u :: us, .cons r t, f => fun u' hu => by
    rw [List.all_cons, Bool.and_eq_true] at f
    rcases List.mem_cons.mp hu with rfl | hu
    · rw [eqU_of r f.1]; exact eqAt_V r rx f.1 fx
    · exact mem_eqAt rx fx t f.2 u' hu
def inV (x : V) (xs : List V) : Bool := xs.any fun y => eqV y x
/-- x in a list or tuple of flat items -/
def rIn (K : PySem.W.Frag) (neg : Bool) : R2 := fun x y H Q => ∃ p xs, y = .ref p ∧ (SqL K H p xs ∨ SqT K H p xs) ∧ flatV x = true ∧ xs.all flatV = true ∧ Q (.bl (if neg then !inV x xs else inV x xs)) H
theorem op_in_seq : OpR X (compareOp .In) (rIn X.K false) := by
  intro pins s σ H x y v u Q I rx ry h
  obtain ⟨p, xs, rfl, hq, fx, fs, q⟩ := h
  cases ry
  rcases hq with hq | hq
  · obtain ⟨its, r, pl, hz⟩ := I.list hq
    refine SeqAt.in_listAt (eqU x) pl.isList (fun w hw => mem_eqAt rx fx r fs w (by simpa using hw)) ⟨.bl _, H, I, rfl, ?_⟩
    rw [show its.toArray.any (eqU x) = its.any (eqU x) by simp, any_eqU r fs]
    exact q
  · obtain ⟨its, r, pl, hz⟩ := I.tuple hq
    refine SeqAt.in_tupleAt (eqU x) pl (fun w hw => mem_eqAt rx fx r fs w (by simpa using hw)) ⟨.bl _, H, I, rfl, ?_⟩
    rw [show its.toArray.any (eqU x) = its.any (eqU x) by simp, any_eqU r fs]
    exact q
theorem op_notIn_seq : OpR X (compareOp .NotIn) (rIn X.K true) := by
  intro pins s σ H x y v u Q I rx ry h
  obtain ⟨p, xs, rfl, hq, fx, fs, q⟩ := h
  cases ry
  rcases hq with hq | hq
  · obtain ⟨its, r, pl, hz⟩ := I.list hq
    refine SeqAt.notIn_listAt (eqU x) pl.isList (fun w hw => mem_eqAt rx fx r fs w (by simpa using hw)) ⟨.bl _, H, I, rfl, ?_⟩
    rw [show its.toArray.any (eqU x) = its.any (eqU x) by simp, any_eqU r fs]
    exact q
  · obtain ⟨its, r, pl, hz⟩ := I.tuple hq
    refine SeqAt.notIn_tupleAt (eqU x) pl (fun w hw => mem_eqAt rx fx r fs w (by simpa using hw)) ⟨.bl _, H, I, rfl, ?_⟩
    rw [show its.toArray.any (eqU x) = its.any (eqU x) by simp, any_eqU r fs]
    exact q
theorem op_notIn_str : OpR X (compareOp .NotIn) (fun x y H Q => ∃ i j, x = .str i ∧ y = .str j ∧ Q (.bl (!(!(Builtin.Str.occurrences j i 0 j.length 1).isEmpty))) H) := by
  intro pins s σ H x y v u Q I rx ry h
  obtain ⟨i, j, rfl, rfl, q⟩ := h
  obtain ⟨t, rfl⟩ := rx
  obtain ⟨t', rfl⟩ := ry
  exact notIn_str ⟨.bl _, H, I, rfl, q⟩

/-! ### len, list(x), tuple(x) of any list or tuple that is read -/
theorem call_len_seq : CallR X (.builtin "len") (fun xs H Q => ∃ p ys, xs = [.ref p] ∧ (SqL X.K H p ys ∨ SqT X.K H p ys) ∧ Q (.int ys.length) H) := by
  intro pins s σ H xs us Q I r h
  obtain ⟨p, ys, rfl, hq, q⟩ := h
  obtain ⟨u, rfl, rx⟩ := vals1 r
  cases rx
  have hn := line63
  rcases hq with hq | hq
  · obtain ⟨its, r', pl, hz⟩ := I.list hq
    have hlen := r'.length
    exact Calls.call_len_list pl.isList (by simp only [List.size_toArray] <;> omega) ⟨.int ys.length, H, I.tok _, ⟨s.toks + 1, by rw [List.size_toArray, hlen]⟩, q⟩
  · obtain ⟨its, r', pl, hz⟩ := I.tuple hq
    have hlen := r'.length
    exact len_tuple pl (by simp only [List.size_toArray] <;> omega) ⟨.int ys.length, H, I.tok _, ⟨s.toks + 1, by rw [List.size_toArray, hlen]⟩, q⟩
theorem call_len_str : CallR X (.builtin "len") (fun xs H Q => ∃ z, xs = [.str z] ∧ z.length ≤ sizeLine ∧ Q (.int z.length) H) := by
  intro pins s σ H xs us Q I r h
  obtain ⟨z, rfl, hz, q⟩ := h
  obtain ⟨u, rfl, t, rfl⟩ := vals1 r
  have hn := line63
  exact len_str (by omega) ⟨.int z.length, H, I.tok _, ⟨_, rfl⟩, q⟩
theorem CallR.or {f : Value} {r r' : List V → Hp → VK → Prop} (h : CallR X f r) (h' : CallR X f r') : CallR X f (fun xs H Q => r xs H Q ∨ r' xs H Q) := by
  intro pins s σ H xs us Q I rs q
  rcases q with q | q
  · exact h pins s σ H xs us Q I rs q
  · exact h' pins s σ H xs us Q I rs q
theorem call_list_of : CallR X (.type "list") (fun xs H Q => ∃ p ys, xs = [.ref p] ∧ (SqL X.K H p ys ∨ SqT X.K H p ys) ∧ ∀ l, H l = none → Q (.ref l) (upd H l (.lst ys))) := by
  intro pins s σ H xs us Q I r h
  obtain ⟨p, ys, rfl, hq, q⟩ := h
  obtain ⟨u, rfl, rx⟩ := vals1 r
  cases rx
  have fin : ∀ (its : List Value), Vals ys its → ys.length ≤ sizeLine → ∀ (h' : Heap) (c' : Nat), (∀ b o', s.heap.get? b = some o' → h'.get? b = some o') →
      h'.get? s.heap.objs.size = some { cls := .type "list", dict := none, data := .seq its.toArray c', slots := #[] } → EP X pins σ Q (.ref s.heap.objs.size) { s with heap := h' } := fun its r' hz h' c' kp e =>
    ⟨.ref s.heap.objs.size, _, I.laid (t' := s.toks) kp (Nat.le_refl _) (show ObjOk X.prog X.w _ h' _ (.lst ys) from ⟨hz, its, c', r', e⟩), rfl, q _ (I.hok.fresh (Nat.le_refl _))⟩
  rcases hq with hq | hq
  · obtain ⟨its, r', pl, hz⟩ := I.list hq
    have hlen := r'.length
    obtain ⟨o, ho, hc, n, hd⟩ := pl.isList
    exact call_list_seq p (.inl rfl) ho hc hd (fun h' c' kp e => fin its r' hz h' c' kp e) (by simp only [List.size_toArray] <;> omega)
  · obtain ⟨its, r', pl, hz⟩ := I.tuple hq
    have hlen := r'.length
    obtain ⟨o, ho, hc, n, hd⟩ := pl
    exact call_list_seq p (.inr rfl) ho hc hd (fun h' c' kp e => fin its r' hz h' c' kp e) (by simp only [List.size_toArray] <;> omega)
theorem call_tuple_of : CallR X (.type "tuple") (fun xs H Q => ∃ p ys, xs = [.ref p] ∧ ((SqL X.K H p ys ∧ ∀ l, H l = none → Q (.ref l) (upd H l (.tup ys))) ∨ (SqT X.K H p ys ∧ Q (.ref p) H))) := by
  intro pins s σ H xs us Q I r h
  obtain ⟨p, ys, rfl, h⟩ := h
  obtain ⟨u, rfl, rx⟩ := vals1 r
  cases rx
  rcases h with ⟨hq, q⟩ | ⟨hq, q⟩
  · obtain ⟨its, r', pl, hz⟩ := I.list hq
    have hlen := r'.length
    refine call_tuple_list pl.isList (fun h' kp => ?_) (by simp only [List.size_toArray] <;> omega)
    have I1 : Inv X pins σ H { s with heap := h' } := I.kept (t' := s.toks) kp
    have I2 : Inv X pins σ (upd H h'.objs.size (.tup ys)) { s with heap := h'.push { cls := .type "tuple", data := .seq its.toArray } } :=
      I1.laid (t' := s.toks) (fun b o e => Heap.get?_push_of_some _ e) (Nat.le_refl _) (show ObjOk X.prog X.w _ _ _ (.tup ys) from ⟨hz, its, r', IsTup.new _ _⟩)
    exact ⟨.ref h'.objs.size, _, I2, rfl, q _ (I1.hok.fresh (Nat.le_refl _))⟩
  · obtain ⟨its, r', pl, hz⟩ := I.tuple hq
    exact call_tuple_same pl ⟨.ref p, H, I, rfl, q⟩

/-! ### the call of a builtin's method: o.m(..) -/
/-- the value is of that builtin type -/
def tyV (K : PySem.W.Frag) (T : String) (x : V) (H : Hp) : Prop := match x with
  | .str _ => T = "str"
  | .int _ => T = "int"
  | .ref p => (T = "list" ∧ ∃ xs, SqL K H p xs) ∨ (T = "tuple" ∧ ∃ o, K.lookup p = some o ∧ o.cls = .type "tuple" ∧ o.dict = none) ∨
      (T = "dict" ∧ ((∃ kvs, H p = some (.dK kvs)) ∨ ∃ kvs, H p = some (.dT kvs))) ∨ (T = "set" ∧ ∃ S n, H p = some (.set S n))
  | _ => False
theorem tyV_is {pins : List (Addr × Obj)} {σ : St} {H : Hp} {s : Shared} {T : String} {x : V} {v : Value} (I : Inv X pins σ H s) (r : RelV x v) (ty : tyV X.K T x H) :
    s.TypeIs v T ∧ ∀ a, v = .ref a → ∃ ob, s.heap.get? a = some ob ∧ ob.dict = none := by
  cases x with
  | str z =>
    obtain ⟨t, rfl⟩ := r
    cases (show T = "str" from ty)
    exact ⟨typeIs_str s z t, fun _ e => nomatch e⟩
  | int i =>
    obtain ⟨t, rfl⟩ := r
    cases (show T = "int" from ty)
    exact ⟨typeIs_int s i t, fun _ e => nomatch e⟩
  | ref p =>
    cases r
    rcases ty with ⟨rfl, xs, hq⟩ | ⟨rfl, o, hk, hc, hd⟩ | ⟨rfl, hk⟩ | ⟨rfl, S, n, hk⟩
    · obtain ⟨its, _, pl, _⟩ := I.list hq
      refine ⟨pl.isList.typeIs, fun a e => ?_⟩
      cases e
      obtain ⟨o, n, e, c, hd, _⟩ := pl
      exact ⟨o, e, hd⟩
    · refine ⟨⟨o, I.kIn p o hk, hc⟩, fun a e => ?_⟩
      cases e
      exact ⟨o, I.kIn _ o hk, hd⟩
    · have z : ∃ o, s.heap.get? p = some o ∧ o.ExactDict := by
        rcases hk with ⟨kvs, hk⟩ | ⟨kvs, hk⟩
        · obtain ⟨_, _, _, _, o, _, _, e, ex, _⟩ := I.hok p _ hk
          exact ⟨o, e, ex⟩
        · obtain ⟨_, _, _, _, o, _, _, e, ex, _⟩ := I.hok p _ hk
          exact ⟨o, e, ex⟩
      obtain ⟨o, e, ex⟩ := z
      refine ⟨⟨o, e, ex.1⟩, fun a e2 => ?_⟩
      cases e2
      exact ⟨o, e, ex.2.1⟩
    · obtain ⟨o, _, _, _, e, ex, _⟩ := I.hok p _ hk
      refine ⟨⟨o, e, ex.1⟩, fun a e2 => ?_⟩
      cases e2
      exact ⟨o, e, ex.2.1⟩
  | _ => exact False.elim ty
def tBM0 (K : PySem.W.Frag) (T : String) (r : V → List V → Hp → VK → Prop) (to : TE) : TE := fun σ H Q => to σ H fun x H1 => tyV K T x H1 ∧ r x [] H1 Q
def tBM (K : PySem.W.Frag) (T : String) (r : V → List V → Hp → VK → Prop) (to : TE) (t : TA) : TE := fun σ H Q => to σ H fun x H1 => tyV K T x H1 ∧ t σ H1 fun xs H2 => r x xs H2 Q
variable {o e : Expr} {es : List Expr} {to : TE} {t : TA} {name : Str} {apos cpos : Pos} {T id : String} {r : V → List V → Hp → VK → Prop}
theorem pe_bm0 (pa : PlainAttrs T) (slot : Slot T name id) (hty : typeOf (.builtin id) = pure (.type "method_descriptor")) (hm : MtR X id r) (ho : PE X o to)
    (hbase : attributeBase o name X.env (eval o X.env) = eval o X.env := by rfl) (hline : (apos.endLine == cpos.line) = true := by rfl) : PE X (.Call (.Attribute o name apos) [] [] cpos) (tBM0 X.K T r to) := by
  intro pins s σ H Q I h
  refine wpAny_Call_method0_late hbase hline (thn (ho pins s σ H _ I h) fun v s1 ⟨x, H1, I1, r1, ty, q1⟩ => ?_)
  obtain ⟨h1, h2⟩ := tyV_is I1 r1 ty
  exact ⟨T, id, pa, slot, hty, h1, h2, Calls.callWith_builtin rfl (PySem.evalArgs_none (hm pins s1 σ H1 x [] v [] Q I1 r1 .nil q1))⟩
theorem pe_bm (pa : PlainAttrs T) (slot : Slot T name id) (hty : typeOf (.builtin id) = pure (.type "method_descriptor")) (hm : MtR X id r) (ho : PE X o to) (ha : PA X (e :: es) t)
    (hbase : attributeBase o name X.env (eval o X.env) = eval o X.env := by rfl)
    (hfew : ((backTo cpos (starEach (e :: es) X.env)).all (fun x => !x.1) && (backToKw cpos (keywordEach [] X.env)).all (fun x => x.1.isSome)
      && decide ((e :: es).length + ([] : List Keyword).length + (if ([] : List Keyword).isEmpty then 0 else 1) < 30)) = true := by rfl)
    (hline : (apos.endLine == cpos.line) = true := by rfl) (hs : starEach (e :: es) X.env = (false, eval e X.env) :: starEach es X.env := by rfl) (hplain : (backTo cpos (starEach es X.env)).any (·.1) = false := by rfl) :
    PE X (.Call (.Attribute o name apos) (e :: es) [] cpos) (tBM X.K T r to t) := by
  intro pins s σ H Q I h
  refine wpAny_Call_method_late hbase hfew hline rfl (thn (ho pins s σ H _ I h) fun v s1 ⟨x, H1, I1, r1, ty, q1⟩ => ?_)
  obtain ⟨h1, h2⟩ := tyV_is I1 r1 ty
  refine ⟨T, id, pa, slot, hty, h1, h2, ?_⟩
  have hA := ha cpos pins s1 σ H1 _ I1 q1
  rw [hs] at hA ⊢
  refine Calls.callWith_builtin (by show (false || (backTo cpos (starEach es X.env)).any (·.1)) = false; rw [hplain] <;> rfl) (Calls.evalArgs_plain ?_)
  exact thn hA fun us s2 ⟨vs, H2, I2, r2, q2⟩ => hm pins s2 σ H2 x vs v us Q I2 r1 r2 q2
/- xs.append(e), list.index on a module's tuple .. are MtR facts of 06m -/
end
end L2

namespace L2
open PySem PySem.Spec PyProof.Rows

def MtM (X : Cx) (id : String) (r : V → List V → Hp → VK → Prop) : Prop :=
  ∀ (pins : List (Addr × Obj)) (s : Shared) (σ : St) (H : Hp) (x : V) (xs : List V) (v : Value) (us : List Value) (Q : VK), Inv X pins σ H s → RelV x v → Vals xs us → r x xs H Q →
    wpAny (model X.prog X.w) X.A (call (.builtin id) (v :: us)) (EP X pins σ Q) X.xe s

/-! ### lists of values -/
theorem Vals.one : ∀ {x : V} {us : List Value}, Vals [x] us → ∃ u, us = [u] ∧ RelV x u
  | _, _, .cons r .nil => ⟨_, rfl, r⟩
theorem Vals.two : ∀ {x y : V} {us : List Value}, Vals [x, y] us → ∃ u v, us = [u, v] ∧ RelV x u ∧ RelV y v
  | _, _, _, .cons r (.cons q .nil) => ⟨_, _, rfl, r, q⟩
theorem Vals.zero : ∀ {us : List Value}, Vals [] us → us = []
  | _, .nil => rfl
theorem Vals.dropLast {xs : List V} {us : List Value} (h : Vals xs us) : Vals xs.dropLast us.dropLast := by
  induction h with
  | nil => exact .nil
  | cons r t ih =>
    cases t with
    | nil => exact .nil
    | cons q t' => exact .cons r ih
theorem Vals.eraseIdx : ∀ {xs : List V} {us : List Value} (i : Nat), Vals xs us → Vals (xs.eraseIdx i) (us.eraseIdx i)
  | _, _, _, .nil => .nil
  | _, _, 0, .cons _ t => t
  | _, _, i + 1, .cons r t => .cons r (Vals.eraseIdx i t)
theorem Vals.reverse {xs : List V} {us : List Value} (h : Vals xs us) : Vals xs.reverse us.reverse := by
  induction h with
  | nil => exact .nil
  | cons r t ih => rw [List.reverse_cons, List.reverse_cons]; exact Vals.append ih (.cons r .nil)
theorem Vals.rep {xs : List V} {us : List Value} (h : Vals xs us) : ∀ k : Nat, Vals (List.replicate k xs).flatten (List.replicate k us).flatten
  | 0 => .nil
  | k + 1 => by
    rw [List.replicate_succ, List.replicate_succ, List.flatten_cons, List.flatten_cons]
    exact Vals.append h (Vals.rep h k)
theorem erase_last {α : Type} (l : List α) : l.eraseIdx (l.length - 1) = l.dropLast := by
  induction l with
  | nil => rfl
  | cons a r ih =>
    cases r with
    | nil => rfl
    | cons b r =>
      have e : (a :: b :: r).length - 1 = ((b :: r).length - 1) + 1 := by
        have h1 : (a :: b :: r).length = r.length + 2 := rfl
        have h2 : (b :: r).length = r.length + 1 := rfl
        omega
      rw [e, List.eraseIdx_cons_succ, ih]
      all_goals rfl
theorem len_erase {α : Type} : ∀ (l : List α) (i : Nat), (l.eraseIdx i).length ≤ l.length
  | [], _ => Nat.le_refl _
  | _ :: _, 0 => Nat.le_succ _
  | _ :: r, i + 1 => Nat.succ_le_succ (len_erase r i)
theorem foldl_rep (its : List Value) : ∀ (k : Nat) (acc : List Value),
    List.foldl (fun x1 x2 => x1 ++ x2) acc.toArray (List.replicate k its.toArray) = (acc ++ (List.replicate k its).flatten).toArray
  | 0, acc => by simp
  | k + 1, acc => by
    have e : acc.toArray ++ its.toArray = (acc ++ its).toArray := by simp
    have e2 : (acc ++ its) ++ (List.replicate k its).flatten = acc ++ (List.replicate (k + 1) its).flatten := by
      rw [List.replicate_succ, List.flatten_cons, List.append_assoc]
    rw [← e2, ← foldl_rep its k (acc ++ its), ← e, List.replicate_succ, List.foldl_cons]

section
variable {X : Cx} {pins : List (Addr × Obj)} {σ : St} {H : Hp} {s : Shared} {l b : Addr} {xs ys zs : List V}

/-! ### the two steps: a tracked list is rewritten, a new list is laid -/
theorem Inv.lset {its its' : List Value} {n : Nat} {f : Array Value → Array Value} {t' : Nat} (I : Inv X pins σ H s) (hH : H l = some (.lst xs))
    (e : s.heap.get? l = some { cls := .type "list", data := .seq its.toArray n }) (hf : f its.toArray = its'.toArray) (hv : Vals ys its') (hz : ys.length ≤ sizeLine) :
    Inv X pins σ (upd H l (.lst ys)) { s with heap := s.heap.update l (Obj.mapSeq f), toks := t' } := by
  have q := PySem.IsL.update e f
  rw [hf] at q
  refine I.write (x := l) (e := l) (by rw [hH]; exact trivial) (.inl rfl) (fun b' u hb hu => (Heap.get?_update_other s.heap (Obj.mapSeq f) (Ne.symm hb)).trans hu) ⟨_, q⟩ ?_
  exact ⟨hz, its', _, hv, q⟩
theorem Inv.lnew {its : List Value} {t' : Nat} (I : Inv X pins σ H s) (hv : Vals ys its) (hz : ys.length ≤ sizeLine) :
    Inv X pins σ (upd H s.heap.objs.size (.lst ys)) { s with heap := s.heap.push { cls := .type "list", data := .seq its.toArray }, toks := t' } :=
  I.laid (fun _ _ q => Heap.get?_push_of_some _ q) (Nat.le_refl _) ⟨hz, its, 0, hv, Heap.get?_push_size _ rfl⟩
theorem Inv.fresh (I : Inv X pins σ H s) : H s.heap.objs.size = none := I.hok.fresh (Nat.le_refl _)
theorem Inv.lstM (I : Inv X pins σ H s) (hH : H l = some (.lst xs)) : xs.length ≤ sizeLine ∧ ∃ (its : List Value) (n : Nat), Vals xs its ∧ xs.length = its.length ∧ s.heap.get? l = some { cls := .type "list", data := .seq its.toArray n } := by
  obtain ⟨z, its, n, r, e⟩ := I.hok l _ hH
  exact ⟨z, its, n, r, r.length, e⟩

theorem notLongL {n : Nat} (h : n ≤ sizeLine) : Builtin.List.listTooLong n = false := by
  unfold Builtin.List.listTooLong
  exact decide_eq_false (by omega)
end

section
variable {X : Cx}

/-! ### methods -/
def rAppend : V → List V → Hp → VK → Prop := fun x vs H Q => ∃ l xs y, x = .ref l ∧ vs = [y] ∧ H l = some (.lst xs) ∧ xs.length < sizeLine ∧ Q .non (upd H l (.lst (xs ++ [y])))
theorem mt_append : MtM X "list.append" rAppend := by
  intro pins s σ H x vs v us Q I rx rv h
  obtain ⟨l, xs, y, rfl, rfl, hH, hz, q⟩ := h
  cases rx
  obtain ⟨u, rfl, ru⟩ := rv.one
  obtain ⟨z, its, n, r, hl, e⟩ := I.lstM hH
  refine call_meets F.slot_list_append ⟨_, e, rfl⟩ F.entry_list_append (F.args_list_append_2 _ _) (PySem.list_append l its.toArray n u (by rw [List.size_toArray]; omega)) ⟨e, ?_⟩
  refine ⟨.non, _, I.lset (its' := its ++ [u]) hH e (by simp) (r.append (.cons ru .nil)) ?_, rfl, q⟩
  rw [List.length_append, List.length_singleton]
  omega

def rExtend : V → List V → Hp → VK → Prop := fun x vs H Q => ∃ l b xs zs, x = .ref l ∧ vs = [.ref b] ∧ H l = some (.lst xs) ∧ H b = some (.lst zs) ∧ xs.length + zs.length ≤ sizeLine ∧ Q .non (upd H l (.lst (xs ++ zs)))
theorem mt_extend : MtM X "list.extend" rExtend := by
  intro pins s σ H x vs v us Q I rx rv h
  obtain ⟨l, b, xs, zs, rfl, rfl, hH, hB, hz, q⟩ := h
  cases rx
  obtain ⟨u, rfl, ru⟩ := rv.one
  cases ru
  obtain ⟨z, its, n, r, hl, e⟩ := I.lstM hH
  obtain ⟨z2, its2, n2, r2, hl2, e2⟩ := I.lstM hB
  have hsz : its.toArray.size + its2.toArray.size ≤ sizeLine := by rw [List.size_toArray, List.size_toArray]; omega
  have hlong : ¬ (!its.toArray.isEmpty && Builtin.List.listTooLong (its.toArray.size + its2.toArray.size)) = true := by
    rw [notLongL hsz, Bool.and_false]
    exact Bool.false_ne_true
  refine call_meets F.slot_list_extend ⟨_, e, rfl⟩ F.entry_list_extend (F.args_list_extend_2 _ _)
    (AutoSeq1.list_extend_list_list_0 l its.toArray n b its2.toArray n2 hlong (by rw [List.size_toArray]; omega) (by omega)) ⟨e, e2, ?_⟩
  refine ⟨.non, _, I.lset (its' := its ++ its2) hH e (by simp) (r.append r2) ?_, rfl, q⟩
  rw [List.length_append]
  omega

def rPop : V → List V → Hp → VK → Prop := fun x vs H Q => ∃ l xs y, x = .ref l ∧ vs = [] ∧ H l = some (.lst xs) ∧ xs[xs.length - 1]? = some y ∧ Q y (upd H l (.lst xs.dropLast))
theorem mt_pop : MtM X "list.pop" rPop := by
  intro pins s σ H x vs v us Q I rx rv h
  obtain ⟨l, xs, y, rfl, rfl, hH, hy, q⟩ := h
  cases rx
  have hus := rv.zero
  subst hus
  obtain ⟨z, its, n, r, hl, e⟩ := I.lstM hH
  obtain ⟨u, hu, ru⟩ := r.get hy
  have hy' : its.toArray[its.toArray.size - 1]? = some u := by
    show its.toArray[its.length - 1]? = some u
    rw [← Array.getElem?_toList, ← hl]
    exact hu
  refine call_meets F.slot_list_pop ⟨_, e, rfl⟩ F.entry_list_pop (F.args_list_pop_1 _) (MeetsSeq.list_pop_last l its.toArray n u hy' (by rw [List.size_toArray]; omega)) ⟨e, ?_⟩
  refine ⟨y, _, I.lset (its' := its.dropLast) hH e ?_ r.dropLast ?_, ru, q⟩
  · show its.toArray.eraseIdxIfInBounds (its.toArray.size - 1) = its.dropLast.toArray
    rw [List.size_toArray, List.eraseIdxIfInBounds_toArray, erase_last]
  · rw [List.length_dropLast]
    omega

def rPopAt : V → List V → Hp → VK → Prop := fun x vs H Q => ∃ l xs i k y, x = .ref l ∧ vs = [.int i] ∧ H l = some (.lst xs) ∧ -(2 ^ 63) ≤ i ∧ i < 2 ^ 63 ∧ seqIndex? i xs.length = some k ∧ xs[k]? = some y ∧ Q y (upd H l (.lst (xs.eraseIdx k)))
theorem mt_popAt : MtM X "list.pop" rPopAt := by
  intro pins s σ H x vs v us Q I rx rv h
  obtain ⟨l, xs, i, k, y, rfl, rfl, hH, h1, h2, hk, hy, q⟩ := h
  cases rx
  obtain ⟨u, rfl, ru⟩ := rv.one
  obtain ⟨t, rfl⟩ := ru
  obtain ⟨z, its, n, r, hl, e⟩ := I.lstM hH
  obtain ⟨w, hw, rw'⟩ := r.get hy
  refine call_meets F.slot_list_pop ⟨_, e, rfl⟩ F.entry_list_pop (F.args_list_pop_2 _ _)
    (MeetsSeq.list_pop_at l its.toArray n i t k w (fitsIndex_both h1 h2) (by rw [List.size_toArray, ← hl]; exact hk) (by rw [← Array.getElem?_toList]; exact hw) (by rw [List.size_toArray]; omega)) ⟨e, ?_⟩
  refine ⟨y, _, I.lset (its' := its.eraseIdx k) hH e ?_ (r.eraseIdx k) ?_, rw', q⟩
  · show its.toArray.eraseIdxIfInBounds k = (its.eraseIdx k).toArray
    rw [List.eraseIdxIfInBounds_toArray]
  · have := len_erase xs k
    omega

def rReverse : V → List V → Hp → VK → Prop := fun x vs H Q => ∃ l xs, x = .ref l ∧ vs = [] ∧ H l = some (.lst xs) ∧ Q .non (upd H l (.lst xs.reverse))
theorem mt_reverse : MtM X "list.reverse" rReverse := by
  intro pins s σ H x vs v us Q I rx rv h
  obtain ⟨l, xs, rfl, rfl, hH, q⟩ := h
  cases rx
  have hus := rv.zero
  subst hus
  obtain ⟨z, its, n, r, hl, e⟩ := I.lstM hH
  refine call_meets F.slot_list_reverse ⟨_, e, rfl⟩ F.entry_list_reverse (F.args_list_reverse_1 _) (AutoSeq1.list_reverse_list_0 l its.toArray n (by rw [List.size_toArray]; omega)) ⟨e, ?_⟩
  refine ⟨.non, _, I.lset (its' := its.reverse) hH e (by simp) r.reverse ?_, rfl, q⟩
  rw [List.length_reverse]
  omega

def rClear : V → List V → Hp → VK → Prop := fun x vs H Q => ∃ l xs, x = .ref l ∧ vs = [] ∧ H l = some (.lst xs) ∧ Q .non (upd H l (.lst []))
theorem mt_clear : MtM X "list.clear" rClear := by
  intro pins s σ H x vs v us Q I rx rv h
  obtain ⟨l, xs, rfl, rfl, hH, q⟩ := h
  cases rx
  have hus := rv.zero
  subst hus
  obtain ⟨z, its, n, r, hl, e⟩ := I.lstM hH
  refine call_meets F.slot_list_clear ⟨_, e, rfl⟩ F.entry_list_clear (F.args_list_clear_1 _) (AutoSeq1.list_clear_list_0 l its.toArray n (by rw [List.size_toArray]; omega)) ⟨e, ?_⟩
  exact ⟨.non, _, I.lset (its' := []) (ys := []) hH e rfl .nil (Nat.zero_le _), rfl, q⟩

/-! ### list + list, list += list, list * int -/
def rCat : R2 := fun x y H Q => ∃ l b xs zs, x = .ref l ∧ y = .ref b ∧ H l = some (.lst xs) ∧ H b = some (.lst zs) ∧ xs.length + zs.length ≤ sizeLine ∧ ∀ p, H p = none → Q (.ref p) (upd H p (.lst (xs ++ zs)))
theorem op_cat : OpR X (binaryOp .Add) rCat := by
  intro pins s σ H x y v u Q I rx ry h
  obtain ⟨l, b, xs, zs, rfl, rfl, hH, hB, hz, q⟩ := h
  cases rx
  cases ry
  obtain ⟨z, its, n, r, hl, e⟩ := I.lstM hH
  obtain ⟨z2, its2, n2, r2, hl2, e2⟩ := I.lstM hB
  refine PySem.P.add_list e e2 ?_ (by rw [List.size_toArray, List.size_toArray]; omega)
  have ea : its.toArray ++ its2.toArray = (its ++ its2).toArray := by simp
  rw [ea]
  exact ⟨.ref _, _, I.lnew (t' := s.toks) (r.append r2) (by rw [List.length_append]; omega), rfl, q _ I.fresh⟩
/-- a list times an int (a negative one is nothing) -/
def rRep : R2 := fun x y H Q => ∃ l k xs, x = .ref l ∧ y = .int k ∧ H l = some (.lst xs) ∧ -(2 ^ 63) ≤ k ∧ k < 2 ^ 63 ∧ xs.length * k.toNat ≤ sizeLine ∧
  ∀ p, H p = none → Q (.ref p) (upd H p (.lst (List.replicate k.toNat xs).flatten))
theorem len_rep {α : Type} (xs : List α) (k : Nat) : (List.replicate k xs).flatten.length = k * xs.length := by
  induction k with
  | zero => simp
  | succ k ih => rw [List.replicate_succ, List.flatten_cons, List.length_append, ih, Nat.succ_mul, Nat.add_comm]
theorem op_rep : OpR X (binaryOp .Mult) rRep := by
  intro pins s σ H x y v u Q I rx ry h
  obtain ⟨l, k, xs, rfl, rfl, hH, h1, h2, hz, q⟩ := h
  cases rx
  obtain ⟨t, rfl⟩ := ry
  obtain ⟨z, its, n, r, hl, e⟩ := I.lstM hH
  have hlen : its.toArray.size * k.toNat ≤ sizeLine := by rw [List.size_toArray, ← hl]; exact hz
  have hcap : ¬ its.toArray.size * k.toNat > (2 ^ 63 - 1) / 8 := by
    have : (sizeLine : Nat) ≤ (2 ^ 63 - 1) / 8 := by decide
    omega
  have hfit : ¬ (!Builtin.List.listFitsIndex k) = true := by
    rw [fitsIndex_both h1 h2]
    exact Bool.false_ne_true
  have hlong : ¬ Builtin.List.listTooLong (its.toArray.size * k.toNat) = true := by
    rw [notLongL hlen]
    exact Bool.false_ne_true
  have hnew : List.foldl (fun x1 x2 => x1 ++ x2) #[] (List.replicate (if its.toArray.isEmpty = true then 0 else k.toNat) its.toArray) = (List.replicate k.toNat its).flatten.toArray := by
    have f0 : ∀ m : Nat, List.foldl (fun x1 x2 => x1 ++ x2) #[] (List.replicate m its.toArray) = (List.replicate m its).flatten.toArray := fun m => by
      have := foldl_rep its m []
      rw [List.nil_append] at this
      exact this
    rw [f0]
    cases its with
    | nil => simp
    | cons a r' => rw [if_neg (by simp)]
  refine wpAny_binaryOp_repeat_ref (T := "list") (U := "int") (by decide) ⟨_, e, rfl⟩ (fun s' => typeIs_int s' k t) noFill_list_mul F.fills_int_mul F.slot_int_rmul repeat_list F.slot_int_index.lookup
    (call_meets F.slot_int_rmul (typeIs_int s k t) F.entry_int_rmul (F.args_int_rmul_2 _ _) (int___rmul___int_list k t l its.toArray n)
      ⟨e, rfl, ⟨_, e, rfl⟩, call_meets F.slot_list_mul ⟨_, e, rfl⟩ F.entry_list_mul (F.args_list_mul_2 _ _) (AutoListH.list___mul___list_int_3 l its.toArray n k t hfit hcap hlong) ⟨e, ?_⟩⟩)
  rw [hnew]
  exact ⟨.ref _, _, I.lnew (t' := s.toks) (r.rep k.toNat) (by rw [len_rep, Nat.mul_comm]; exact hz), rfl, q _ I.fresh⟩

/-! ### del xs[i] -/
theorem del_list {pins : List (Addr × Obj)} {s : Shared} {σ : St} {H : Hp} {l : Addr} {xs : List V} {i : Int} {t : Tok} {k : Nat} {Q : Unit → Shared → Prop} (I : Inv X pins σ H s) (hH : H l = some (.lst xs))
    (h1 : -(2 ^ 63) ≤ i) (h2 : i < 2 ^ 63) (hk : seqIndex? i xs.length = some k) (h : ∀ s', Inv X pins σ (upd H l (.lst (xs.eraseIdx k))) s' → Q () s') :
    wpAny (model X.prog X.w) X.A (delItem (.ref l) (.int i t)) Q X.xe s := by
  obtain ⟨z, its, n, r, hl, e⟩ := I.lstM hH
  refine PySem.P.delItem_list (k := k) e (fitsIndex_both h1 h2) (by rw [List.size_toArray, ← hl]; exact hk) (h _ ?_) (by rw [List.size_toArray]; omega)
  refine I.lset (its' := its.eraseIdx k) (t' := s.toks) hH e ?_ (r.eraseIdx k) ?_
  · show its.toArray.eraseIdxIfInBounds k = (its.eraseIdx k).toArray
    rw [List.eraseIdxIfInBounds_toArray]
  · have := len_erase xs k
    omega
end

/-! ### xs[a:b] = ys -/
section
variable {prog : Program} {w : World} {A : Around} {E : Value → Shared → Prop} {s : Shared}
theorem splice_eq (its its2 : List Value) (a c : Nat) : its.toArray.extract 0 a ++ its2.toArray ++ its.toArray.extract c its.toArray.size = (its.take a ++ its2 ++ its.drop c).toArray := by
  apply Array.toList_inj.mp
  first
    | (simp
       exact List.take_of_length_le (by simp))
    | simp [List.take_of_length_le]
    | simp
theorem bounds_run {a c n : Nat} (hac : a ≤ c) (hc : c ≤ n) : sliceBounds (some (a : Int)) (some (c : Int)) none n = ((a : Int), (c : Int), 1) := by
  simp only [sliceBounds, Option.getD_none]
  have h1 : ¬ ((a : Int) < 0) := by omega
  have h2 : ¬ ((c : Int) < 0) := by omega
  simp only [h1, h2, if_false, show (1 : Int) > 0 by decide, if_true]
  congr 1
  · omega
  · congr 1; omega
set_option maxRecDepth 100000 in
/-- list.__setitem__ with a slice of step one and another list -/
theorem setItem_slice {l b sl : Addr} {items new : Array Value} {n n2 : Nat} {vl vu : Value} {a c : Nat} {Q : Unit → Shared → Prop}
    (e : s.heap.get? l = some { cls := .type "list", data := .seq items n }) (e2 : s.heap.get? b = some { cls := .type "list", data := .seq new n2 }) (hne : l ≠ b)
    (hs : s.heap.IsSliceOf sl vl vu .none) (pl : IsPart vl (some (a : Int))) (pu : IsPart vu (some (c : Int))) (hac : a ≤ c) (hc : c ≤ items.size)
    (hsz : items.size + new.size ≤ sizeLine) (h : Q () { s with heap := s.heap.update l (Obj.mapSeq fun xs => xs.extract 0 a ++ new ++ xs.extract c xs.size) }) :
    wpAny (model prog w) A (setItem (.ref l) (.ref sl) (.ref b)) Q E s := by
  have hl : s.heap.IsList l items := PySem.IsL.isList e
  have hb : s.heap.IsList b new := PySem.IsL.isList e2
  obtain ⟨os, hos, hcs, hds⟩ := id hs
  have hTs : s.TypeIs (.ref sl) "slice" := ⟨os, hos, hcs⟩
  have hstep : ¬ ((rawPart none == rawInt 0) = true) := Bool.false_ne_true
  have hsame : Builtin.List.listSameRef (.ref l) (.ref b) = false := by
    unfold Builtin.List.listSameRef
    exact beq_eq_false_iff_ne.mpr hne
  have hmax : (max (a : Int) (c : Int)).toNat = c := by omega
  have hz' : ((fun xs : Array Value => xs.extract 0 a ++ new ++ xs.extract c xs.size) items).size ≤ sizeLine + 1 := by
    simp only [Array.size_append, Array.size_extract]
    omega
  unfold setItem
  try with_reducible refine wpAny_holding ?_
  first | refine wpAny_bind (wpAny_pure ?_) | skip
  refine wpAny_bind (wpAny_sequenceKey hl.typeIs (by decide) ?_)
  refine wpAny_bind (wpAny_callSpecial?_slot (name := Str.ofString "__setitem__") hl.typeIs slot_list_setitem
    (wpAny_call_entry slot_list_setitem hl.typeIs entry_list_setitem ?_ (args_list_setitem _ _ _)))
  show wpAny _ _ (Builtin.List.listSubscript? (.ref sl) >>= _) _ _ s
  refine wpAny_bind ?_
  unfold Builtin.List.listSubscript?
  refine wpAny_bind (wpAny_specialOf hTs slice_no_index ?_)
  simp only [Option.isNone_none, if_true]
  refine wpAny_pure ?_
  show wpAny _ _ (typeOf (.ref sl) >>= _) _ _ s
  refine wpAny_bind (wpAny_typeOf hTs ?_)
  first
    | rw [if_neg (by decide)]
    | refine PySem.W.KFB.if_not (by decide) ?_
  rw [listSliceParts_eq]
  refine wpAny_bind (wpAny_bind (wpAny_field hos hds (x := .none) rfl (wpAny_bind (wpAny_listPart .none ?_))))
  rw [if_neg hstep]
  refine wpAny_bind (wpAny_field hos hds (x := vl) rfl (wpAny_bind (wpAny_listPart pl ?_)))
  refine wpAny_bind (wpAny_field hos hds (x := vu) rfl (wpAny_bind (wpAny_listPart pu (wpAny_pure ?_))))
  first
    | simp only [hsame, Bool.false_eq_true, if_false]
    | refine PySem.W.KFB.if_not hsame ?_
    | (dsimp only
       rw [if_neg (by rw [hsame]; exact Bool.false_ne_true)])
  refine wpAny_bind (m := Builtin.List.listAllItems (.ref b) "must assign iterable to extended slice") ?_
  unfold Builtin.List.listAllItems
  refine wpAny_bind (wpAny_typeOf hb.typeIs ?_)
  first
    | refine PySem.W.KFB.if_so (by decide) ?_
    | rw [if_pos (by decide)]
    | simp only [beq_self_eq_true, Bool.true_or, if_true]
  unfold Builtin.List.listItems
  refine wpAny_bind (wpAny_seqItems e2 rfl (wpAny_pure ?_))
  refine wpAny_bind (wpAny_bind (wpAny_seqItems e rfl (wpAny_pure ?_)))
  refine wpAny_bind (wpAny_of_eq ((sliceIndices_raw (some (a : Int)) (some (c : Int)) none items.size (by simp)).trans (congrArg (pure : Int × Int × Int → Sem (Int × Int × Int)) (bounds_run hac hc))) ?_)
  show wpAny _ _ (if ((1 : Int) == 1) = true then _ else _) _ _ s
  rw [if_pos (by decide)]
  refine wpAny_bind (wpAny_rule ?_)
  first
    | simp only [notLongL hsz, Bool.false_eq_true, if_false]
    | refine PySem.W.KFB.if_not (notLongL hsz) ?_
  first | refine wpAny_bind (wpAny_pure ?_) | skip
  show wpAny _ _ (updateSeq l (fun xs => xs.extract 0 ((a : Int)).toNat ++ new ++ xs.extract (max (a : Int) (c : Int)).toNat xs.size) >>= _) _ _ s
  rw [hmax, Int.toNat_natCast]
  refine wpAny_bind (wpAny_updateSeq (hz := Nat.le_trans (Nat.le_add_right _ _) hsz) (_hz' := hz') e rfl ?_)
  refine wpAny_bind (wpAny_letGo ?_)
  first
    | exact wpAny_bind (wpAny_pure (wpAny_pure ⟨.none, rfl, wpAny_pure h⟩))
    | exact wpAny_pure ⟨.none, rfl, wpAny_pure h⟩
end

section
variable {X : Cx}
/-- xs[a:c] = ys of another list, at the value level: sl is the slice object that was just made -/
theorem set_slice {pins : List (Addr × Obj)} {s : Shared} {σ : St} {H : Hp} {l b sl : Addr} {xs ys : List V} {a c : Int} {vl vu : Value} {Q : Unit → Shared → Prop} (I : Inv X pins σ H s)
    (hH : H l = some (.lst xs)) (hB : H b = some (.lst ys)) (hne : l ≠ b) (hs : s.heap.IsSliceOf sl vl vu .none) (ra : RelV (.int a) vl) (rc : RelV (.int c) vu) (h0 : 0 ≤ a) (hac : a ≤ c) (hc : c ≤ xs.length)
    (hz : xs.length + ys.length ≤ sizeLine) (h : ∀ s', Inv X pins σ (upd H l (.lst (xs.take a.toNat ++ ys ++ xs.drop c.toNat))) s' → Q () s') :
    wpAny (model X.prog X.w) X.A (setItem (.ref l) (.ref sl) (.ref b)) Q X.xe s := by
  obtain ⟨ta, rfl⟩ := ra
  obtain ⟨tc, rfl⟩ := rc
  obtain ⟨z, its, n, r, hl, e⟩ := I.lstM hH
  obtain ⟨z2, its2, n2, r2, hl2, e2⟩ := I.lstM hB
  obtain ⟨a', rfl⟩ := Int.eq_ofNat_of_zero_le h0
  obtain ⟨c', rfl⟩ := Int.eq_ofNat_of_zero_le (Int.le_trans h0 hac)
  simp only [Int.toNat_natCast] at h
  refine setItem_slice (a := a') (c := c') e e2 hne hs (.int _ _) (.int _ _) (by omega) (by rw [List.size_toArray]; omega) (by rw [List.size_toArray, List.size_toArray]; omega) (h _ ?_)
  refine I.lset (its' := its.take a' ++ its2 ++ its.drop c') (t' := s.toks) hH e ?_ (Vals.append (Vals.append (r.take _) r2) (r.drop _)) ?_
  · exact splice_eq its its2 a' c'
  · rw [List.length_append, List.length_append, List.length_take, List.length_drop]
    omega
end
end L2

namespace Att
open PySem PySem.W PySem.Calls PyProof.Rows

/-! ### the script -/
theorem ints_of_wellAll {P : Params} {h : Heap} : ∀ (ns : List Int) (vs : List Value), WellAll P h vs (ns.map WData.int) → IntsAre vs ns := by
  intro ns
  induction ns with
  | nil =>
    intro vs w
    rw [List.map_nil] at w
    cases w
    exact .nil
  | cons n ns ih =>
    intro vs w
    rw [List.map_cons] at w
    cases w with
    | cons a b =>
      cases a
      exact .cons _ _ (ih _ b)

theorem script_of {l : OpenLaw} {n : Nat} (hn : l.most = some n) {P : Params} {h : Heap} {args : List WData} {vals : List Value}
    (hpre : l.row.toRowW.claim.pre args = true) (hwl : WellAll P h vals args) :
    ∃ a vs ns, vals = [Value.ref a] ∧ args = [WData.list (ns.map WData.int)] ∧ h.get? a = some { cls := .type "list", data := .seq vs.toArray } ∧ IntsAre vs ns ∧ ns.length ≤ n := by
  have hsh : WShape.hasAll [] args [.list .int] = true := (pre_splitW hpre).1
  have hc : l.pre.holds [] { args := args } = true := (pre_splitW hpre).2
  obtain ⟨d, r, rfl, h1, h2⟩ := hasAllW_cons hsh
  obtain rfl := hasAllW_nil h2
  obtain ⟨xs, rfl, h3⟩ := hasW_list h1
  obtain ⟨ns, rfl⟩ := items_int h3
  have hlen : ns.length ≤ n := by
    unfold OpenLaw.pre at hc
    have h4 : (WTm.not (.lt (.lit (.int (n : Int))) (.len (.arg 0)))).holds [] { args := [.list (ns.map .int)] } = true := by
      have h4 := (holds_andW hc).1
      rw [hn] at h4
      exact h4
    have h5 := condW_of h4 (w_not (w_lt w_lit (w_len_list (w_arg rfl))))
    rw [List.length_map] at h5
    refine Nat.le_of_not_lt fun q => ?_
    have q' : (n : Int) < ((ns.length : Nat) : Int) := by omega
    first
      | (rw [decide_eq_true q'] at h5; exact absurd h5 (by decide))
      | (simp at h5; omega)
  cases hwl with
  | cons w1 w2 =>
    cases w2
    cases w1 with
    | list ho hall => exact ⟨_, _, ns, rfl, rfl, ho, ints_of_wellAll ns _ hall, hlen⟩

theorem post_true (l : OpenLaw) (args : List WData) : l.row.toRowW.claim.post args (.bool true) args = true :=
  postW_of (r := l.row.toRowW) (X := (true == true))
    (show WShape.has [] (.bool true) .bool = true by first | rfl | decide | simp [WShape.has, WShape.arms, WShape.armsAll])
    (show (WTm.eq .res (.lit (.bool true))).value [] { args := args, res := some (.bool true), after := args } = some (.bool (true == true)) from w_eq_bool (w_res rfl) w_lit) rfl

/-! ### the attachment: holds_open's last premise (the goal 'hc' behind k_head) from a wpAny of the law's body -/
theorem attach {l : OpenLaw} {n : Nat} {q : Program} {loose : List Str} {XP : (Str → Option Value) → Heap → Prop} {YP : World → Heap → Prop} {d : DefRec} {x : Str}
    (hn : l.most = some n) (hdf : d.params.defaults = [])
    (hbind : ∀ pm cd doc v : Value, bindArgs (docDef d.name d.params d.body d.scope pm cd doc) ⟨[v], []⟩ = pure [(x, v)])
    (hx : d.scope.names.lookup x = some .local ∨ d.scope.names.lookup x = some .cell)
    (hk : d.scope.kind = .function) (hco : d.scope.isCoroutine = false) (hgen : d.scope.isGenerator = false)
    (body : ∀ (w : World) (s₀ s₁ s : Shared) (mg mb : Str → Option Value) (fa : Addr) (o : Obj) (pm cd doc : Value) (a : Addr) (vs : List Value) (ns : List Int),
      Ground q loose [] XP w s₀ mg mb s₁.heap → YP w s₁.heap →
      s₁.heap.get? fa = some o → o.data = .func (docDef d.name d.params d.body d.scope pm cd doc) → s₁.heap.CodeRec cd d.name → mg d.name = some (.ref fa) →
      s₁.heap.get? a = some { cls := .type "list", data := .seq vs.toArray } → IntsAre vs ns → ns.length ≤ n →
      s.gens = #[] → s.os = s₁.os →
      Fr s₁.heap s₁.heap.objs.size s.heap (bindL (envOfC d.name d.scope s₁.heap.objs.size fa cd).kindOf [(x, .ref a)] fun _ => none) →
      Cl s₁.heap.objs.size (cellsFrom (s₁.heap.objs.size + 1) d.scope.names []) s.heap (bindC (envOfC d.name d.scope s₁.heap.objs.size fa cd).kindOf [(x, .ref a)] fun _ => none) →
      wpAny (model l.prog w) (callerA.deeper (envOfC d.name d.scope s₁.heap.objs.size fa cd)) (execs d.body (envOfC d.name d.scope s₁.heap.objs.size fa cd))
        (fun f s' => f = .ret (.bool true) ∧ OldK s₁.heap s'.heap ∧ s'.os = s₁.os ∧ AllBare s'.gens) (fun _ _ => False) s) :
    WalkO q loose XP YP l.row.toRowW d [] (fun f vs => PySem.call f vs) := by
  intro w s₀ s₁ mg mb G Y fa o pm cd doc dV kV ho hd hcd hD hmg hg args vals as hpre hlay hrd hwl hlo
  obtain rfl : dV = .none := Dflts.none hD hdf
  obtain rfl : kV = .none := Dflts.noKw hD
  obtain ⟨a, vs, ns, rfl, rfl, hobj, hints, hlen⟩ := script_of hn hpre hwl
  refine enter_call ?_
  refine call_cells_ret (o := o) (by rw [depth_caller]; decide) ho (fd_plain hd) G.T.nolimit hcd (hbind pm cd doc (.ref a)) (fun y hy => ?_) (fun h₁ tk F X => ?_) hco hgen hk
  · obtain rfl : y = (x, Value.ref a) := List.mem_singleton.mp hy
    rcases hx with e | e
    · exact .inl e
    · exact .inr ⟨e, cellsFrom_some _ _ _ (.inl e)⟩
  · refine wpAny_mono (body w s₀ s₁ { s₁ with heap := h₁, toks := tk } mg mb fa o pm cd doc a vs ns G Y ho (fd_plain hd) hcd hmg hobj hints hlen hg rfl F X) (fun f s' hq => ?_) (fun _ _ hq => hq)
    obtain ⟨rfl, h2, h3, h4⟩ := hq
    exact ⟨.inl ⟨.bool true, .bool true, [], rfl, fun _ => rfl, .bool true, post_true l _, fun _ => ⟨List.Pairwise.nil, fun _ hm => (nomatch hm)⟩⟩, h2, h3, h4⟩

/-- the same from a codeAny of the CALL (for a layer whose function contracts speak of calls) -/
theorem attach_call {l : OpenLaw} {n : Nat} {q : Program} {loose : List Str} {XP : (Str → Option Value) → Heap → Prop} {YP : World → Heap → Prop} {d : DefRec}
    (hn : l.most = some n) (hdf : d.params.defaults = [])
    (call : ∀ (w : World) (s₀ s₁ : Shared) (mg mb : Str → Option Value) (fa : Addr) (o : Obj) (pm cd doc : Value) (a : Addr) (vs : List Value) (ns : List Int),
      Ground q loose [] XP w s₀ mg mb s₁.heap → YP w s₁.heap →
      s₁.heap.get? fa = some o → o.data = .func (docDef d.name d.params d.body d.scope pm cd doc) → s₁.heap.CodeRec cd d.name → mg d.name = some (.ref fa) →
      s₁.heap.get? a = some { cls := .type "list", data := .seq vs.toArray } → IntsAre vs ns → ns.length ≤ n → s₁.gens = #[] →
      codeAny (model l.prog w) callerA (.call (.ref fa) ⟨[.ref a], []⟩) (fun r s' => r = .ok (.ret (.bool true)) ∧ OldK s₁.heap s'.heap ∧ s'.os = s₁.os ∧ AllBare s'.gens) s₁) :
    WalkO q loose XP YP l.row.toRowW d [] (fun f vs => PySem.call f vs) := by
  intro w s₀ s₁ mg mb G Y fa o pm cd doc dV kV ho hd hcd hD hmg hg args vals as hpre hlay hrd hwl hlo
  obtain rfl : dV = .none := Dflts.none hD hdf
  obtain rfl : kV = .none := Dflts.noKw hD
  obtain ⟨a, vs, ns, rfl, rfl, hobj, hints, hlen⟩ := script_of hn hpre hwl
  refine enter_call (codeAny_mono (call w s₀ s₁ mg mb fa o pm cd doc a vs ns G Y ho (fd_plain hd) hcd hmg hobj hints hlen hg) fun r s' hq => ?_)
  obtain ⟨rfl, h2, h3, h4⟩ := hq
  exact ⟨.inl ⟨.bool true, .bool true, [], rfl, fun _ => rfl, .bool true, post_true l _, fun _ => ⟨List.Pairwise.nil, fun _ hm => (nomatch hm)⟩⟩, h2, h3, h4⟩

/-- the same where the top left finished generators (o_head chose holds_openN): nothing may have changed at all and no generator may be left -/
theorem attachN {l : OpenLaw} {n : Nat} {q : Program} {loose : List Str} {XP : (Str → Option Value) → Heap → Prop} {YP : World → Heap → Prop} {d : DefRec} {x : Str}
    (hn : l.most = some n) (hdf : d.params.defaults = [])
    (hbind : ∀ pm cd doc v : Value, bindArgs (docDef d.name d.params d.body d.scope pm cd doc) ⟨[v], []⟩ = pure [(x, v)])
    (hx : d.scope.names.lookup x = some .local ∨ d.scope.names.lookup x = some .cell)
    (hk : d.scope.kind = .function) (hco : d.scope.isCoroutine = false) (hgen : d.scope.isGenerator = false)
    (body : ∀ (w : World) (s₀ s₁ s : Shared) (mg mb : Str → Option Value) (fa : Addr) (o : Obj) (pm cd doc : Value) (a : Addr) (vs : List Value) (ns : List Int),
      Ground q loose [] XP w s₀ mg mb s₁.heap → YP w s₁.heap →
      s₁.heap.get? fa = some o → o.data = .func (docDef d.name d.params d.body d.scope pm cd doc) → s₁.heap.CodeRec cd d.name → mg d.name = some (.ref fa) →
      s₁.heap.get? a = some { cls := .type "list", data := .seq vs.toArray } → IntsAre vs ns → ns.length ≤ n →
      s.gens = #[] → s.os = s₁.os →
      Fr s₁.heap s₁.heap.objs.size s.heap (bindL (envOfC d.name d.scope s₁.heap.objs.size fa cd).kindOf [(x, .ref a)] fun _ => none) →
      Cl s₁.heap.objs.size (cellsFrom (s₁.heap.objs.size + 1) d.scope.names []) s.heap (bindC (envOfC d.name d.scope s₁.heap.objs.size fa cd).kindOf [(x, .ref a)] fun _ => none) →
      wpAny (model l.prog w) (callerA.deeper (envOfC d.name d.scope s₁.heap.objs.size fa cd)) (execs d.body (envOfC d.name d.scope s₁.heap.objs.size fa cd))
        (fun f s' => f = .ret (.bool true) ∧ (∀ b o, s₁.heap.get? b = some o → s'.heap.get? b = some o) ∧ s'.os = s₁.os ∧ s'.gens = #[]) (fun _ _ => False) s) :
    WalkN q loose XP YP l.row.toRowW d [] (fun f vs => PySem.call f vs) := by
  intro w s₀ s₁ mg mb G Y fa o pm cd doc dV kV ho hd hcd hD hmg hg args vals as hpre hlay hrd hwl hlo
  obtain rfl : dV = .none := Dflts.none hD hdf
  obtain rfl : kV = .none := Dflts.noKw hD
  obtain ⟨a, vs, ns, rfl, rfl, hobj, hints, hlen⟩ := script_of hn hpre hwl
  refine enter_callW ?_
  refine call_cells_ret (o := o) (by rw [depth_caller]; decide) ho (fd_plain hd) G.T.nolimit hcd (hbind pm cd doc (.ref a)) (fun y hy => ?_) (fun h₁ tk F X => ?_) hco hgen hk
  · obtain rfl : y = (x, Value.ref a) := List.mem_singleton.mp hy
    rcases hx with e | e
    · exact .inl e
    · exact .inr ⟨e, cellsFrom_some _ _ _ (.inl e)⟩
  · refine wpAny_mono (body w s₀ s₁ { s₁ with heap := h₁, toks := tk } mg mb fa o pm cd doc a vs ns G Y ho (fd_plain hd) hcd hmg hobj hints hlen hg rfl F X) (fun f s' hq => ?_) (fun _ _ hq => hq)
    obtain ⟨rfl, h2, h3, h4⟩ := hq
    exact ⟨.inl ⟨.bool true, .bool true, [], rfl, fun _ => rfl, .bool true, post_true l _, fun _ => ⟨List.Pairwise.nil, fun _ hm => (nomatch hm)⟩⟩, h2, h3, h4⟩

/-! ### rules over ANY heap (no ledger) from facts about the written part K: the library's own take a ledger (News) for what they write -/
section
variable {prog : Program} {w : World} {A : Around} {E : Value → Shared → Prop} {s : Shared} {K : Frag}

/-- a def of the module, or a method (qual 'C.m'), entered: the frame is the next address; cells behind it -/
theorem call_fn {R : Result → Shared → Prop} {name qual : Str} {params : Arguments} {body : List Stmt} {scope : Scope} {dV kV doc pm cdv ct oc : Value} {an od : Option Addr} {osl : Array (Option Value)} {f : Addr} {args : Args} {binds : List (Str × Value)}
    (X : K.In s.heap) (hlim : s.heap.NoLimit) (ho : K.lookup f = some ⟨oc, od, .func (fnOf name qual params body scope dV kV doc pm an cdv ct), osl⟩) (hcd : codeIn K cdv qual = true) (hroom : A.depth < recursionLimit)
    (hbind : BindsTo s (fnOf name qual params body scope dV kV doc pm an cdv ct) args binds)
    (hkind : (binds.all fun y => scope.names.lookup y.1 == some .local || scope.names.lookup y.1 == some .cell) = true)
    (h : ∀ s₁, InCallC s s.heap.objs.size (bindL (envOfC qual scope s.heap.objs.size f cdv).kindOf binds fun _ => none) (cellsFrom (s.heap.objs.size + 1) scope.names [])
        (bindC (envOfC qual scope s.heap.objs.size f cdv).kindOf binds fun _ => none) s₁ →
      wpAny (model prog w) (A.deeper (envOfC qual scope s.heap.objs.size f cdv)) (execs body (envOfC qual scope s.heap.objs.size f cdv))
        (fun fl s' => R (.ok (.ret (match fl with | .ret v => v | _ => .none))) s')
        (fun e s' => wpAny (model prog w) (A.deeper (envOfC qual scope s.heap.objs.size f cdv)) (leaving (envOfC qual scope s.heap.objs.size f cdv) e) (fun _ s'' => R (.error e) s'') (fun e' s'' => R (.error e') s'') s') s₁)
    (hco : scope.isCoroutine = false) (hgen : scope.isGenerator = false) (hk : scope.kind = .function) : codeAny (model prog w) A (.call (.ref f) args) R s := by
  refine codeAny_call_function hroom (X _ _ ho) rfl hco hgen rfl (codeRec_of X hcd) (hbind _ _ _ _ ?_)
  refine wpAny_newFunctionEnv_cells hk (kindsX hkind _) fun env he s₁ x => ?_
  subst he
  exact ⟨hlim.keeps x.toInCall.keep, codeAny_func (h s₁ x)⟩

/-- C(..): dict at size, instance at size + 1, then __init__ -/
theorem make_obj {R : Result → Shared → Prop} {C fI : Addr} {rest : List Value} {kw : List (Str × Value)}
    (X : K.In s.heap) (hm : makesIn K C = true) (hi : findIn K (.ref C) "__init__" = some (some (.ref fI))) (hf : isFn K (.ref fI) = true)
    (h : codeAny (model prog w) (A.under (.builtin "type.__call__" ⟨.ref C :: rest, kw⟩)) (.call (.ref fI) ⟨.ref (s.heap.objs.size + 1) :: rest, kw⟩) (InitBack (s.heap.objs.size + 1) R)
      { s with heap := (s.heap.push emptyDict).push (instObj C s.heap.objs.size) }) : codeAny (model prog w) A (.call (.ref C) ⟨rest, kw⟩) R s := by
  obtain ⟨hh, g, d, t, os⟩ := s
  exact make_core (makes_of X hm) (looks_findIn X hi) (fun self => bind_fn X self (beq_iff_eq.mp hf)) (.inl rfl) h

/-- x.name where the instance's dict holds the name and the class does not -/
theorem get_field {x C : Addr} {ox : Obj} {es : List DictEntry} {n : Nat} {name : Str} {expr : Bool} {v : Value} {Q : Value → Shared → Prop}
    (X : K.In s.heap) (I : PySem.W.InstAt s.heap x ox C (some (dictOf es n))) (hg : plainGet K C name = true) (hh : hasDictIn K C = true) (ha : findIn K (.ref C) name = some none)
    (hl : getL name es = some (some v)) (hv : handedIn v = true) (h : Q v { s with toks := s.toks + 1 }) : wpAny (model prog w) A (getAttr (.ref x) name expr) Q E s :=
  get_value X I (plainGet_of hg).1 (findObj_own hh ha rfl hl) hv h

/-- x.m(..): the method found in the class -/
theorem get_method {x C f : Addr} {ox : Obj} {es : List DictEntry} {n : Nat} {name : Str} {pl : Sem Bool} {Q : Value × List Value → Shared → Prop}
    (X : K.In s.heap) (I : PySem.W.InstAt s.heap x ox C (some (dictOf es n))) (hg : plainGet K C name = true) (hf : findIn K (.ref C) name = some (some (.ref f))) (ht : isFn K (.ref f) = true)
    (hl : getL name es = some none) (h : Q (.ref f, [.ref x]) s) : wpAny (model prog w) A (getMethod (.ref x) name pl) Q E s :=
  method_fn X I (plainGet_of hg).1 (plainGet_of hg).2 hf (beq_iff_eq.mp ht) (by show (lookIn name (dictOf es n)).map _ = _; rw [lookIn_dict, hl]; rfl) h

/-! the whole heap as the ledger: makes every rule that writes through a ledger a rule over any heap -/
def noObjs (h : Heap) : Heap := { h with objs := #[] }
theorem noObjs_get (h : Heap) (b : Addr) : (noObjs h).get? b = none := by
  cases e : (noObjs h).get? b with
  | none => rfl
  | some o => exact absurd (Heap.lt_size e) (Nat.not_lt_zero _)
def ledger (h : Heap) (L d : Addr) : List (Addr × Obj) := (List.range h.objs.size).filterMap fun a => if a = L ∨ a = d then none else (h.get? a).map fun o => (a, o)
theorem mem_ledger {h : Heap} {L d a : Addr} {o : Obj} : (a, o) ∈ ledger h L d ↔ a ≠ L ∧ a ≠ d ∧ h.get? a = some o := by
  unfold ledger
  rw [List.mem_filterMap]
  constructor
  · rintro ⟨b, _, e⟩
    split at e
    · cases e
    · rename_i hb
      obtain ⟨o', ho, e'⟩ := Option.map_eq_some_iff.mp e
      cases e'
      exact ⟨fun q => hb (.inl q), fun q => hb (.inr q), ho⟩
  · rintro ⟨n1, n2, ho⟩
    refine ⟨a, List.mem_range.mpr (Heap.lt_size ho), ?_⟩
    rw [if_neg (show ¬ (a = L ∨ a = d) from fun q => q.elim n1 n2), ho] <;> rfl
theorem news_ledger {h : Heap} {L d : Addr} {od : Obj} (hne : d ≠ L) (ho : h.get? d = some od) : News (noObjs h) L h ([] ++ (d, od) :: ledger h L d) := by
  rintro ⟨a, o⟩ hp
  rcases List.mem_cons.mp hp with e | hp
  · cases e
    exact ⟨ho, hne, noObjs_get _ _⟩
  · obtain ⟨n1, n2, e⟩ := mem_ledger.mp hp
    exact ⟨e, n1, noObjs_get _ _⟩
theorem fr_all {h : Heap} {L : Addr} {m : Str → Option Value} (n : h.Ns L m) : Fr (noObjs h) L h m :=
  ⟨n, fun b o e => (by rw [noObjs_get] at e; cases e), Nat.zero_le _⟩
/-- Upd of the head entry (for append_K, setItem_K ..) -/
theorem upd_ledger {h : Heap} {L d : Addr} {o o' : Obj} : Upd d o o' ((d, o) :: ledger h L d) ((d, o') :: ledger h L d) :=
  .head fun ⟨_, _⟩ hp => (mem_ledger.mp hp).2.1

/-- x.name = v over any heap: L is any namespace of the heap (the frame's, say): its map stays, its object is not told; all else but the dict stays -/
theorem set_field {x C dx L : Addr} {ox : Obj} {m : Str → Option Value} {es es' : List DictEntry} {n n' : Nat} {name : Str} {v : Value} {Q : Unit → Shared → Prop}
    (X : K.In s.heap) (I : PySem.W.InstAt s.heap x ox C (some (dictOf es n))) (hd : ox.dict = some dx) (hL : s.heap.Ns L m) (hne : dx ≠ L)
    (hs : findIn K (.ref C) "__setattr__" = some (some (.builtin "object.__setattr__"))) (hp : plainOver K C = true) (ht : takerIn K C name = some none) (hh : hasDictIn K C = true) (hl : (getL name es).isSome = true)
    (e : (putL name (PyData.keyHash w.params name) (.str name (s.toks + 1)) v es, putN name es n) = (es', n')) (hz : es'.length ≤ 1000)
    (h : ∀ h' : Heap, h'.Ns L m → h'.get? dx = some (dictOf es' n') → (∀ b o, b ≠ dx → b ≠ L → s.heap.get? b = some o → h'.get? b = some o) → Q () { s with heap := h', toks := s.toks + 2 }) :
    wpAny (model prog w) A (setAttr (.ref x) name v) Q E s := by
  obtain ⟨e1, e2⟩ := Prod.mk.inj e
  have hdx : s.heap.get? dx = some (dictOf es n) := by
    have := I.dict
    rw [hd] at this
    exact this
  refine set_plain X I hs (osa_dict (s := { s with toks := s.toks + 1 }) (h₀ := noObjs s.heap) (L := L) (m := m) (od := dictOf es n) (od' := dictOf es' n') (es := es') (n := n') (pre := []) (post := ledger s.heap L dx)
    (fr_all hL) (news_ledger hne hdx) X I hd hp ht hh hl (fun _ q => nomatch q) (fun ⟨_, _⟩ q => (mem_ledger.mp q).2.1) (by rw [putName_dict, e1, e2]) rfl hz fun h' F' N' => ?_)
  exact h h' F'.ns (N'.get (List.Mem.head _)) fun b o n1 n2 ho => N'.get (List.Mem.tail _ (mem_ledger.mpr ⟨n2, n1, ho⟩))
end
end Att

namespace L2
open PySem PySem.Spec PyProof.Rows

theorem vals_ints : ∀ {vs : List Value} {ns : List Int}, IntsAre vs ns → Vals (ns.map V.int) vs
  | _, _, .nil => .nil
  | _, _, .cons n t h => .cons ⟨t, rfl⟩ (vals_ints h)

/-- nothing is tracked but the script, known to the object (or it is an object of the module) -/
def Only (H : Hp) : Prop := ∀ b, H b = none ∨ ∃ o xs, H b = some (.frz o (.lst xs))

/-- THE HEAD: the law's promise, at the heap behind the top. F, the promise of the law's def, may use that base is part of the heap (so K.In base, base.Ns mainGlobals mg stand in Mod) -/
theorem law_call {P : Program} {w : World} {K : PySem.W.Frag} {mg mb : Str → Option Value} {CX : CXT} {k : Nat} {fa a : Addr} {fd : FuncData} {x : Str} {sp : Sp} {s₁ : Shared} {vs : List Value} {ns : List Int}
    (KX : K.In s₁.heap) (hns : s₁.heap.Ns mainGlobals mg) (hb : s₁.heap.Ns builtinsNs mb) (hbb : ∀ x : Str, x ≠ "__name__" → mb x = bootBuiltins x) (hlim : s₁.heap.NoLimit) (hg : s₁.gens = #[])
    (ha : s₁.heap.get? a = some { cls := .type "list", data := .seq vs.toArray }) (hi : IntsAre vs ns) (hl : ns.length ≤ sizeLine) (hr : Room k callerA)
    (F : ∀ base : Heap, K.In base → base.Ns mainGlobals mg → FnOk P w K mg base CX k fa fd [x] sp) (hbind : ∀ (s : Shared) (u : Value), BindsTo s fd ⟨[u], []⟩ [(x, u)])
    (hsp : ∀ H : Hp, Only H → SqL K H a (ns.map V.int) → sp [.ref a] H (fun v _ => v = .bl true) fun _ _ _ => False)
    (hCX : ∀ H e s', CX [] H s₁ (fun _ _ _ => False) e s' → False) :
    codeAny (model P w) callerA (.call (.ref fa) ⟨[.ref a], []⟩) (fun r s' => r = .ok (.ret (.bool true)) ∧ OldK s₁.heap s'.heap ∧ s'.os = s₁.os ∧ AllBare s'.gens) s₁ := by
  have rv := vals_ints hi
  have lenV := hi.length
  -- from an abstract heap in which nothing but the script may be tracked
  have core : ∀ H : Hp, Only H → SqL K H a (ns.map V.int) → HOk P w H s₁.heap → (∀ b, H b ≠ none → b = a) → (H a ≠ none → K.lookup a = none) →
      codeAny (model P w) callerA (.call (.ref fa) ⟨[.ref a], []⟩) (fun r s' => r = .ok (.ret (.bool true)) ∧ OldK s₁.heap s'.heap ∧ s'.os = s₁.os ∧ AllBare s'.gens) s₁ := by
    intro H hO hS hok hA hK
    have base_of : ∀ {b : Addr} {o : Obj}, s₁.heap.get? b = some o → H b = none → (hidT s₁.heap H).get? b = some o := fun e n => hidT_get e n
    have noA : ∀ {b : Addr} {o : Obj} {es : Array DictEntry} {ep : Nat}, s₁.heap.get? b = some o → o.data = .dict es ep → H b = none := fun {b o es ep} e d => by
      cases q : H b with
      | none => rfl
      | some u =>
        have e' : b = a := hA b (by rw [q]; simp)
        subst e'
        rw [ha] at e; cases e
        have d' : Data.seq vs.toArray _ = Data.dict es ep := d
        cases d'
    have nsK : ∀ {b : Addr} {m : Str → Option Value}, s₁.heap.Ns b m → (hidT s₁.heap H).Ns b m := fun {b m} ⟨o, es, ep, e, d, r⟩ => ⟨o, es, ep, base_of e (noA e d), d, r⟩
    have hKb : K.In (hidT s₁.heap H) := fun b o e => base_of (KX b o e) (by
      cases q : H b with
      | none => rfl
      | some u =>
        have e' : b = a := hA b (by rw [q]; simp)
        subst e'
        rw [hK (by rw [q]; simp)] at e; cases e)
    have hM : Mod K mg (hidT s₁.heap H) := ⟨hKb, nsK hns, ⟨mb, nsK hb, hbb⟩, let ⟨mc, h1, h2⟩ := hlim; ⟨mc, nsK h1, h2⟩⟩
    have e0 : Env0 P w K mg (hidT s₁.heap H) callerA [] s₁ H := ⟨rfl, hM, fun b o e => of_hidT e, Nat.le_of_eq (hidT_size _ _), trivial, fun b hb => absurd (show b ∈ ([] : List Addr) from hb) (by simp), hok, .of_eq hg⟩
    refine codeAny_mono ((F _ hKb (nsK hns)).run callerA [] s₁ H ⟨[.ref a], []⟩ [.ref a] [.ref a] _ _ hr e0 (hbind s₁ (.ref a)) (.cons rfl .nil) (hsp H hO hS)) fun r s' h => ?_
    cases r with
    | error e => exact (hCX H e s' h).elim
    | ok fl =>
      cases fl with
      | next => exact False.elim h
      | brk => exact False.elim h
      | cont => exact False.elim h
      | ret u =>
        obtain ⟨v, H', os, bare, un, hok', r', q⟩ := h
        have q' : v = .bl true := q
        subst q'
        obtain rfl : u = Value.bool true := r'
        refine ⟨rfl, OldK.of_keep fun b o e => ?_, os, bare⟩
        cases q : H b with
        | none => exact un.keep b o e q (by intro z; exact absurd (show b ∈ ([] : List Addr) from z) (by simp)) (by simp)
        | some u =>
          rcases hO b with z | ⟨ob, xs, z⟩
          · rw [q] at z; cases z
          · have z2 := un.frzs b ob _ z
            obtain ⟨e1, _⟩ := hok b _ z
            obtain ⟨e2, _⟩ := hok' b _ z2
            rw [e] at e1; cases e1
            exact e2
  cases hk : K.lookup a with
  | some o =>
    -- the script is one of the module's own objects
    have e := KX a o hk
    rw [ha] at e
    cases e
    refine core (fun _ => none) (fun _ => .inl rfl) (.inr ⟨_, vs.toArray, _, hk, rfl, rfl, rfl, by rw [List.size_toArray, lenV]; exact hl, by simpa using rv⟩) (fun b u z => by have z' : (none : Option HO) = some u := z; cases z') (fun b z => absurd rfl z) fun z => absurd rfl z
  | none =>
    refine core (fun b => if b = a then some (.frz { cls := .type "list", data := .seq vs.toArray } (.lst (ns.map V.int))) else none) (fun b => ?_) (.inl (.inr ⟨{ cls := .type "list", data := .seq vs.toArray }, if_pos rfl⟩)) (fun b u z => ?_) (fun b z => ?_) fun _ => hk
    · by_cases hb : b = a
      · exact .inr ⟨_, _, if_pos hb⟩
      · exact .inl (if_neg hb)
    · by_cases hb : b = a
      · have z' := (if_pos hb).symm.trans z
        cases z'
        subst hb
        exact ⟨ha, by rw [List.length_map]; exact hl, vs, _, rv, ha⟩
      · have z' := (if_neg hb).symm.trans z
        cases z'
    · by_cases hb : b = a
      · exact hb
      · exact absurd (if_neg hb) z
end L2

namespace L2
open PySem PySem.Spec PyProof.Rows

abbrev KOf {K : PySem.W.Frag} {h : Heap} (_ : K.In h) : PySem.W.Frag := K

/-- the goal that k_head leaves (case hc), from the law's promise. F gives the function object fd (K's own) once, then the promise over every base -/
theorem walk_of {l : PySem.W.OpenLaw} {n k : Nat} {q : Program} {loose : List Str} {XP : (Str → Option Value) → Heap → Prop} {YP : World → Heap → Prop} {d : DefRec} {K : Params → PySem.W.Frag} {CX : World → CXT} {sp : World → Sp} {x : Str}
    (hn : l.most = some n) (hn2 : n ≤ sizeLine) (hdf : d.params.defaults = []) (hr : Room k callerA)
    (hY : ∀ (w : World) (h : Heap), YP w h → (K w.params).In h)
    (F : ∀ (w : World) (mg : Str → Option Value) (fa : Addr) (h : Heap), (K w.params).In h → h.Ns mainGlobals mg → mg d.name = some (.ref fa) →
      ∃ fd : FuncData, (∀ (s : Shared) (u : Value), BindsTo s fd ⟨[u], []⟩ [(x, u)]) ∧
        ∀ base : Heap, (K w.params).In base → base.Ns mainGlobals mg → FnOk l.prog w (K w.params) mg base (CX w) k fa fd [x] (sp w))
    (hsp : ∀ (w : World) (H : Hp) (a : Addr) (ns : List Int), ns.length ≤ n → Only H → SqL (K w.params) H a (ns.map V.int) → sp w [.ref a] H (fun v _ => v = .bl true) fun _ _ _ => False)
    (hCX : ∀ (w : World) (H : Hp) (s : Shared) (e : Value) (s' : Shared), CX w [] H s (fun _ _ _ => False) e s' → False) :
    PySem.W.WalkO q loose XP YP l.row.toRowW d [] (fun f vs => PySem.call f vs) := by
  refine Att.attach_call hn hdf fun w s₀ s₁ mg mb fa o pm cd doc a vs ns G Y ho hd hcd hmg hobj hints hlen hg => ?_
  have KX := hY w _ Y
  obtain ⟨fd, hb, hF⟩ := F w mg fa _ KX G.T.g hmg
  exact law_call KX G.T.g G.T.b G.T.builtins G.T.nolimit hg hobj hints (Nat.le_trans hlen hn2) hr hF hb (fun H hO hS => hsp w H a ns hlen hO hS) fun H e s' => hCX w H s₁ e s'
/-- the same where the promise hangs on the written part alone: (sp := My.sp_law), no hole under a binder -/
theorem walk_ofK {l : PySem.W.OpenLaw} {n k : Nat} {q : Program} {loose : List Str} {XP : (Str → Option Value) → Heap → Prop} {YP : World → Heap → Prop} {d : DefRec} {K : Params → PySem.W.Frag} {CX : CXT} {sp : PySem.W.Frag → Sp} {x : Str}
    (hn : l.most = some n) (hn2 : n ≤ sizeLine) (hdf : d.params.defaults = []) (hr : Room k callerA)
    (hY : ∀ (w : World) (h : Heap), YP w h → (K w.params).In h)
    (F : ∀ (w : World) (mg : Str → Option Value) (fa : Addr) (h : Heap), (K w.params).In h → h.Ns mainGlobals mg → mg d.name = some (.ref fa) →
      ∃ fd : FuncData, (∀ (s : Shared) (u : Value), BindsTo s fd ⟨[u], []⟩ [(x, u)]) ∧
        ∀ base : Heap, (K w.params).In base → base.Ns mainGlobals mg → FnOk l.prog w (K w.params) mg base CX k fa fd [x] (sp (K w.params)))
    (hsp : ∀ (K : PySem.W.Frag) (H : Hp) (a : Addr) (ns : List Int), ns.length ≤ n → Only H → SqL K H a (ns.map V.int) → sp K [.ref a] H (fun v _ => v = .bl true) fun _ _ _ => False)
    (hCX : ∀ (H : Hp) (s : Shared) (e : Value) (s' : Shared), CX [] H s (fun _ _ _ => False) e s' → False) :
    PySem.W.WalkO q loose XP YP l.row.toRowW d [] (fun f vs => PySem.call f vs) :=
  walk_of (K := K) (CX := fun _ => CX) (sp := fun w => sp (K w.params)) hn hn2 hdf hr hY F (fun w H a ns h1 h2 h3 => hsp (K w.params) H a ns h1 h2 h3) fun _ H s e s' => hCX H s e s'
end L2

/- THE LAST THEOREM (shape; LID, My.* are yours):
   My.Adr: a structure of the addresses that your layer names (classes, functions); My.Txt K t: a structure (Prop) of the equations over K;
   My.txt_mk : {K} {implicit addresses ..} (e1 : nsIn K mainGlobals "law" = some (some (.ref f))) (e2 : K.lookup f = some ⟨oc, od, .func (fnOf "law" "law" params body scope dV kV doc pm an cdv ct), sl⟩) (e3 : codeIn K cdv "law" = true) .. : ∃ t, My.Txt K t

set_option maxRecDepth 100000 in
set_option maxHeartbeats 0 in
theorem PySem.Challenge.cw_LID_holds : PySem.Challenge.rw_LID.Holds := by
  w_on; o_law; k_head; (case hw => w_witness2)
  k_fill
  refine L2.walk_of (l := PySem.Challenge.rw_LID) (n := 63) (k := 40) (x := "script") (CX := fun w => ..) (sp := fun _ => My.sp_law) rfl (by decide) rfl ⟨rfl, by decide, by decide⟩ (fun w h Y => PySem.W.kIn_of Y) ?F ?S ?C
  case F =>
    intro w mg fa h KX G hmg
    have T : ∃ t, My.Txt (L2.KOf KX) t := by
      dsimp only [L2.KOf]                          -- K must stand as «<heap const> w.params» for k_is
      refine' My.txt_mk ?e1 ?e2 ?e3 ..
      (case e1 => PySem.W.k_is)                    -- in the order: a name -> its address -> its object -> its parts
      (case e2 => PySem.W.k_is)
      ..
    obtain ⟨t, T⟩ := T
    have e0 := hmg.symm.trans (PySem.W.mg_of KX G T.law)
    cases e0                                       -- fa is the law's own address
    exact ⟨_, fun s u => .of_eq rfl, fun base kb nb => My.law_fn T kb nb⟩     -- if «.of_eq rfl» comes too early: refine' ⟨_, ?b, fun base kb nb => My.law_fn T kb nb⟩; exact fun s u => .of_eq rfl
  case S => exact fun w H a ns hl hO hS => ..
  case C => exact ..
(the tactic k_is has no namespace: write k_is) -/

/-! SHORT WORDS over the layer: a def of the text, its body, what a loop and a test want. -/
namespace L2
open PySem PySem.Spec PyProof.Rows

/-! ### the text by places -/
/-- the j-th statement of a class's body -/
def inClass (s : Stmt) (j : Nat) : Stmt := match s with
  | .ClassDef _ _ _ body _ _ _ _ _ _ _ => body.getD j (.Pass ⟨0, 0, 0, 0⟩)
  | _ => .Pass ⟨0, 0, 0, 0⟩
def defArgs (s : Stmt) : Arguments := match s with
  | .FunctionDef _ a _ _ _ _ _ _ _ _ => a
  | _ => { posonlyargs := [], args := [], vararg := none, kwonlyargs := [], kw_defaults := [], kwarg := none, defaults := [] }
def defBody (s : Stmt) : List Stmt := match s with
  | .FunctionDef _ _ b _ _ _ _ _ _ _ => b
  | _ => []
def defScope (s : Stmt) : Scope := match s with
  | .FunctionDef _ _ _ _ _ _ sc _ _ _ => sc
  | _ => { kind := .function, names := [], isGenerator := false, isCoroutine := false }

/-! ### no exception leaves a def -/
abbrev CX0 : CXT := fun _ _ _ _ _ _ => False
abbrev E0 : XK := fun _ _ _ => False
theorem pass0 {X : Cx} : Passes CX0 X E0 := fun _ _ _ _ _ _ _ h => h.elim

/-! ### a def (or method) of the text as it stands behind the top -/
structure Fun (K : PySem.W.Frag) (x qual : Str) (st : Stmt) (f : Addr) (fd : FuncData) : Prop where
  ex : ∃ (oc : Value) (od : Option Addr) (kV doc pm : Value) (an : Option Addr) (cdv ct : Value) (osl : Array (Option Value)),
    fd = PySem.W.fnOf x qual (defArgs st) (defBody st) (defScope st) .none kV doc pm an cdv ct ∧ K.lookup f = some ⟨oc, od, .func fd, osl⟩ ∧ PySem.W.codeIn K cdv qual = true
  kp : PySem.W.keepIn K (.ref f) = true
section
variable {P : Program} {w : World} {K : PySem.W.Frag} {mg : Str → Option Value} {base : Heap}
/-- THE RULE for a def: its body as a term of rules, and the reading of that term -/
theorem Fun.ok {x qual : Str} {st : Stmt} {f : Addr} {fd : FuncData} {N ps : List Str} {k : Nat} {sp : Sp} (F : Fun K x qual st f fd) (S : FnScope N ps (defScope st)) (len : ∀ vs H Q E, sp vs H Q E → vs.length = ps.length)
    (hbody : ∀ (cdv : Value) (A : Around) (outer : List Env) (s : Shared) (H : Hp) (vs : List V) (Q : VK) (E : XK), Room k (A.deeper (envOfC qual (defScope st) s.heap.objs.size f cdv)) → sp vs H Q E →
      ∃ t, PSs (cxOf CX0 P w K mg base N qual (defScope st) f cdv A outer s H E).nox (defBody st) t ∧ t { nx := fun _ H' => Q .non H', rt := Q } (start N vs) H) : FnOk P w K mg base CX0 (k + 1) f fd ps sp := by
  obtain ⟨oc, od, kV, doc, pm, an, cdv, ct, osl, rfl, lk, hcd⟩ := F.ex
  refine fn_of lk hcd S len fun A outer s H vs Q E hr hsp => ?_
  obtain ⟨t, h, q⟩ := hbody cdv A outer s H vs Q E hr hsp
  exact ⟨t, h.nox, q⟩
/-- how its arguments bind (no defaults): h is «fun _ _ _ _ _ _ us hl => match us, hl with | [_, _], _ => rfl», one _ a parameter -/
theorem Fun.binds {x qual : Str} {st : Stmt} {f : Addr} {fd : FuncData} {ps : List Str} (F : Fun K x qual st f fd)
    (h : ∀ (kV doc pm : Value) (an : Option Addr) (cdv ct : Value) (us : List Value), us.length = ps.length → bindArgs (PySem.W.fnOf x qual (defArgs st) (defBody st) (defScope st) .none kV doc pm an cdv ct) ⟨us, []⟩ = pure (ps.zip us)) : Binds K fd ps [] := by
  obtain ⟨oc, od, kV, doc, pm, an, cdv, ct, osl, rfl, lk, hcd⟩ := F.ex
  exact .all (h kV doc pm an cdv ct)
theorem fun_mk {x qual : Str} {st : Stmt} {f : Addr} {oc : Value} {od an : Option Addr} {osl : Array (Option Value)} {kV doc pm cdv ct : Value} (l : K.lookup f = some ⟨oc, od, .func (PySem.W.fnOf x qual (defArgs st) (defBody st) (defScope st) .none kV doc pm an cdv ct), osl⟩)
    (c : PySem.W.codeIn K cdv qual = true) (k : PySem.W.keepIn K (.ref f) = true) : Fun K x qual st f (PySem.W.fnOf x qual (defArgs st) (defBody st) (defScope st) .none kV doc pm an cdv ct) := ⟨⟨oc, od, kV, doc, pm, an, cdv, ct, osl, rfl, l, c⟩, k⟩
end
theorem hu_of {A : Around} {k : Nat} (hr : Room k A) : A.units + 1 < cLine := Nat.lt_of_le_of_lt (Nat.add_le_add_left (by decide : 1 ≤ 64) _) hr.units
theorem small1000 {n : Nat} (h : n ≤ 1000) : n < sizeLine := Nat.lt_of_le_of_lt h (by decide)

/-! ### expressions in short: the name that stands in the i-th slot -/
section
variable {X : Cx}
theorem pv (i : Nat) {x : Str} {pos : Pos} (hN : X.N[i]? = some x := by rfl) (hv : Vis X.env.scope x := by first | exact Or.inl rfl | exact Or.inr (Or.inl rfl) | exact Or.inr (Or.inr rfl)) (hd : (x == ("__debug__" : Str)) = false := by decide)
    (hcd : (x == ("__classdict__" : Str)) = false := by decide) : PE X (.Name x pos) (tVar i) := pe_var hN hv hd hcd
end

/-! ### tests -/
theorem iteF {A B : Prop} (h : B) : if false = true then A else B := by
  rw [if_neg Bool.false_ne_true]
  exact h
theorem iteT {A B : Prop} (h : A) : if true = true then A else B := by
  rw [if_pos rfl]
  exact h
theorem ite2 {c A B : Prop} [Decidable c] (h1 : c → A) (h2 : ¬ c → B) : if c then A else B := by
  by_cases h : c
  · rw [if_pos h]
    exact h1 h
  · rw [if_neg h]
    exact h2 h
theorem iteNS {c A B : Prop} [Decidable c] (hc : c) (h : B) : if (!decide c) = true then A else B := by
  rw [decide_eq_true hc]
  exact iteF h

/-! ### heaps -/
/-- all that was tracked is as it was -/
def Same (H H' : Hp) : Prop := ∀ b o, H b = some o → H' b = some o
theorem Same.refl (H : Hp) : Same H H := fun _ _ h => h
theorem Same.trans {H H1 H2 : Hp} (a : Same H H1) (b : Same H1 H2) : Same H H2 := fun c o h => b c o (a c o h)
theorem Same.free {H H' : Hp} (e : Same H H') {l : Addr} (h : H' l = Option.none) : H l = Option.none := by
  cases q : H l with
  | none => rfl
  | some o =>
    rw [e l o q] at h
    cases h
theorem Same.seq {K : PySem.W.Frag} {H H' : Hp} {a : Addr} {xs : List V} (e : Same H H') (h : SqL K H a xs) : SqL K H' a xs := by
  rcases h with (h | ⟨o, h⟩) | h
  · exact .inl (.inl (e _ _ h))
  · exact .inl (.inr ⟨o, e _ _ h⟩)
  · exact .inr h

end L2

set_option Elab.async false
set_option linter.all false
set_option maxRecDepth 100000
namespace L2
open PySem PySem.Spec PyProof.Rows

/-! ### ints among values -/
abbrev iv (ns : List Int) : List V := ns.map V.int
theorem flat_ints : ∀ ns : List Int, (iv ns).all flatV = true
  | [] => rfl
  | n :: r => by rw [iv, List.map_cons, List.all_cons]; exact flat_ints r
theorem inV_ints (x : Int) : ∀ ns : List Int, inV (.int x) (iv ns) = decide (x ∈ ns)
  | [] => by simp [inV]
  | n :: r => by
    have ih := inV_ints x r
    unfold inV at ih ⊢
    rw [iv, List.map_cons, List.any_cons, ih]
    show ((n == x) || decide (x ∈ r)) = decide (x ∈ n :: r)
    by_cases e : n = x
    · subst e; simp
    · have e' : ¬ x = n := fun z => e z.symm
      simp [e, e']
theorem inV_non_ints : ∀ ns : List Int, inV .non (iv ns) = false
  | [] => rfl
  | n :: r => by
    have ih := inV_non_ints r
    unfold inV at ih ⊢
    rw [iv, List.map_cons, List.any_cons, ih]
    rfl
/-- where x stands first -/
def ixV (x : V) (xs : List V) : Nat := xs.findIdx fun y => eqV y x
theorem ixV_ints (x : Int) : ∀ ns : List Int, ixV (.int x) (iv ns) = ns.idxOf x
  | [] => rfl
  | n :: r => by
    have ih := ixV_ints x r
    unfold ixV at ih ⊢
    rw [iv, List.map_cons, List.findIdx_cons, ih, List.idxOf_cons]
    show (bif n == x then 0 else r.idxOf x + 1) = _
    rfl
theorem atI_ints {ns : List Int} {k : Int} (h0 : 0 ≤ k) (h : k < (ns.length : Int)) : atI (iv ns) k = some (.int (ns.getD k.toNat 0)) := by
  have hk : k.toNat < ns.length := by omega
  have ek : k = ((k.toNat : Nat) : Int) := by omega
  have q : atI (iv ns) ((k.toNat : Nat) : Int) = some (.int (ns.getD k.toNat 0)) := atI_nat (by
    rw [iv, List.getElem?_map, List.getElem?_eq_getElem hk, List.getD_eq_getElem?_getD, List.getElem?_eq_getElem hk]
    rfl)
  rw [← ek] at q
  exact q
theorem get_iv {ns : List Int} {i : Nat} {y : V} (h : (iv ns)[i]? = some y) : ∃ z, ns[i]? = some z ∧ y = .int z := by
  rw [iv, List.getElem?_map] at h
  cases e : ns[i]? with
  | none => rw [e] at h; cases h
  | some z => rw [e] at h; exact ⟨z, rfl, (Option.some.inj h).symm⟩
theorem cut_from (xs : List V) (k : Nat) : cutV xs (some (k : Int)) none = xs.drop k := by
  unfold cutV
  rw [HT.sIx_nat, HT.sIx_none]
  by_cases h : k ≤ xs.length
  · rw [Nat.min_eq_left h, List.take_of_length_le (by rw [List.length_drop]; exact Nat.le_refl _)]
  · rw [Nat.min_eq_right (by omega), Nat.sub_self, List.take_zero, List.drop_eq_nil_of_le (by omega)]
theorem cut_to (xs : List V) (k : Nat) : cutV xs none (some (k : Int)) = xs.take k := by
  unfold cutV
  rw [HT.sIx_nat, HT.sIx_none, List.drop_zero, Nat.sub_zero]
  by_cases h : k ≤ xs.length
  · rw [Nat.min_eq_left h]
  · rw [Nat.min_eq_right (by omega), List.take_of_length_le (Nat.le_refl _), List.take_of_length_le (by omega)]

section
variable {X : Cx}
/-! ### xs.index(y), flat items -/
def rIndex (K : PySem.W.Frag) : V → List V → Hp → VK → Prop := fun o vs H Q => ∃ l xs y, o = .ref l ∧ vs = [y] ∧ SqL K H l xs ∧ flatV y = true ∧ xs.all flatV = true ∧ inV y xs = true ∧ Q (.int (ixV y xs)) H
theorem vals_at {xs : List V} {us : List Value} (r : Vals xs us) (j : Nat) (h1 : j < xs.length) (h2 : j < us.length) : RelV xs[j] us[j] := by
  obtain ⟨u, hu, ru⟩ := r.get (List.getElem?_eq_getElem h1)
  rw [List.getElem?_eq_getElem h2] at hu
  rw [Option.some.inj hu]
  exact ru
theorem flat_at {xs : List V} (h : xs.all flatV = true) (j : Nat) (h1 : j < xs.length) : flatV xs[j] = true := List.all_eq_true.mp h _ (List.getElem_mem h1)
theorem mt_index : MtR X "list.index" (rIndex X.K) := by
  intro pins s σ H x vs v us Q I rx rv h
  obtain ⟨l, xs, y, rfl, rfl, hq, fy, fs, hin, q⟩ := h
  cases rx
  obtain ⟨u, rfl, ru⟩ := rv.one
  obtain ⟨its, r, pl, hz⟩ := I.list hq
  obtain ⟨⟨cls, dd, data, sl⟩, ho, hc, n, hd⟩ := id pl.isList
  simp only at hc hd
  subst hc hd
  have hlen := r.length
  have hj : ixV y xs < xs.length := by
    unfold ixV
    unfold inV at hin
    exact List.findIdx_lt_length_of_exists (List.any_eq_true.mp hin)
  have h63 := line63
  have hjs : ixV y xs < its.length := by omega
  refine call_meets PySem.F.slot_list_index ⟨_, ho, rfl⟩ PySem.F.entry_list_index (PySem.F.args_list_index_2 _ _)
    (SeqAt.list_indexAt l its.toArray n dd sl u (eqU y) (ixV y xs) (by simpa using hjs) (by omega) ?_ ?_) ⟨ho, fun z hz => mem_eqAt ru fy r fs z (by simpa using hz), ?_⟩
  · show eqU y its[ixV y xs] = true
    rw [eqU_of (vals_at r _ hj hjs) (flat_at fs _ hj)]
    have := List.findIdx_getElem (p := fun z => eqV z y) (xs := xs) (w := hj)
    exact this
  · intro m hm hlt
    show eqU y its[m] = false
    have hm1 : m < xs.length := by omega
    rw [eqU_of (vals_at r _ hm1 (by simpa using hm)) (flat_at fs _ hm1)]
    have := List.not_of_lt_findIdx (p := fun z => eqV z y) (xs := xs) hlt
    exact Bool.not_eq_true _ ▸ this
  · exact ⟨.int _, H, I.tok _, ⟨_, rfl⟩, q⟩

/-! ### xs.insert(i, y) -/
def insV (xs : List V) (k : Nat) (y : V) : List V := xs.take k ++ y :: xs.drop k
def rInsert : V → List V → Hp → VK → Prop := fun o vs H Q => ∃ l xs i y, o = .ref l ∧ vs = [.int i, y] ∧ H l = some (.lst xs) ∧ 0 ≤ i ∧ i < 2 ^ 63 ∧ xs.length < sizeLine ∧ Q .non (upd H l (.lst (insV xs (min i.toNat xs.length) y)))
theorem mt_insert : MtR X "list.insert" rInsert := by
  intro pins s σ H x vs v us Q I rx rv h
  obtain ⟨l, xs, i, y, rfl, rfl, hH, h0, h1, hz, q⟩ := h
  cases rx
  obtain ⟨u, w, rfl, ⟨t, rfl⟩, ry⟩ := rv.two
  obtain ⟨z, its, n, r, hl, e⟩ := I.lstM hH
  refine call_meets PySem.F.slot_list_insert ⟨_, e, rfl⟩ PySem.F.entry_list_insert (PySem.F.args_list_insert_3 _ _ _)
    (PySem.AutoSeq1.list_insert_list_int_val_1 l its.toArray n i t w (by rw [fitsIndex_both (by omega) h1]; exact Bool.false_ne_true) (by rw [List.size_toArray]; omega)) ⟨e, ?_⟩
  refine ⟨.non, _, I.lset (its' := its.take (min i.toNat its.length) ++ w :: its.drop (min i.toNat its.length)) hH e ?_ ?_ ?_, rfl, q⟩
  · have hneg : ¬ i < 0 := by omega
    show (its.toArray.extract 0 (if i < 0 then _ else min i.toNat its.toArray.size)).push w ++ its.toArray.extract (if i < 0 then _ else min i.toNat its.toArray.size) = _
    rw [if_neg hneg, PySem.W.kl_ins_eq, List.size_toArray]
  · unfold insV
    rw [← hl]
    exact (r.take _).append (.cons ry (r.drop _))
  · unfold insV
    rw [List.length_append, List.length_cons, List.length_take, List.length_drop]
    omega

/-! ### isinstance(x, T), T a builtin type -/
theorem call_isi : CallR X (.builtin "isinstance") (fun xs H Q => ∃ x c t b, xs = [x, .ty c] ∧ TyOf X.K H x t ∧ PySem.W.kitOne X.K t (.type c) = some b ∧ Q (.bl b) H) := by
  intro pins s σ H xs us Q I r h
  obtain ⟨x, c, t, b, rfl, ty, e, q⟩ := h
  obtain ⟨u, u', rfl, rx, rc⟩ := vals2 r
  cases (show u' = Value.type c from rc)
  exact isinst_ok I rx ty e fun tk => ⟨.bl b, H, I.tok tk, rfl, q⟩

/-! ### list == list, list != list: lengths that differ, or flat items -/
def eqL : List V → List V → Bool
  | [], [] => true
  | x :: xs, y :: ys => eqV x y && eqL xs ys
  | _, _ => false
def rEqL (K : PySem.W.Frag) (neg : Bool) : R2 := fun x y H Q => ∃ a b xs ys, x = .ref a ∧ y = .ref b ∧ SqL K H a xs ∧ SqL K H b ys ∧
  ((xs.length ≠ ys.length ∧ Q (.bl neg) H) ∨ (xs.length = ys.length ∧ xs.all flatV = true ∧ ys.all flatV = true ∧ Q (.bl (if neg then !eqL xs ys else eqL xs ys)) H))
theorem range_all_succ (n : Nat) (p : Nat → Bool) : (List.range (n + 1)).all p = (p 0 && (List.range n).all fun i => p (i + 1)) := by
  rw [List.range_succ_eq_map, List.all_cons, List.all_map]
  rfl
theorem eqL_range : ∀ {xs ys : List V}, xs.length = ys.length → ((List.range xs.length).all fun j => eqV (xs.getD j .non) (ys.getD j .non)) = eqL xs ys
  | [], [], _ => rfl
  | x :: xs, y :: ys, h => by
    have ih := eqL_range (xs := xs) (ys := ys) (by simpa using h)
    rw [List.length_cons, range_all_succ]
    show (eqV x y && (List.range xs.length).all fun i => eqV (xs.getD i .non) (ys.getD i .non)) = (eqV x y && eqL xs ys)
    rw [ih]
theorem eqAt_items {A : Around} {s : Shared} {xs ys : List V} {us ws : List Value} (r : Vals xs us) (r' : Vals ys ws) (fx : xs.all flatV = true) (fy : ys.all flatV = true) (j : Nat) (h1 : j < us.toArray.size) (h2 : j < ws.toArray.size) :
    SeqAt.EqAt A s us.toArray[j] ws.toArray[j] (eqV (xs.getD j .non) (ys.getD j .non)) := by
  have l1 := r.length
  have l2 := r'.length
  rw [List.size_toArray] at h1 h2
  have k1 : j < xs.length := by omega
  have k2 : j < ys.length := by omega
  have e1 : xs.getD j .non = xs[j] := by rw [List.getD_eq_getElem?_getD, List.getElem?_eq_getElem k1]; rfl
  have e2 : ys.getD j .non = ys[j] := by rw [List.getD_eq_getElem?_getD, List.getElem?_eq_getElem k2]; rfl
  rw [e1, e2]
  exact eqAt_V (vals_at r j k1 h1) (vals_at r' j k2 h2) (flat_at fx j k1) (flat_at fy j k2)
theorem op_eqL (hu : X.A.units < cLine) : OpR X (compareOp .Eq) (rEqL X.K false) := by
  intro pins s σ H x y v u Q I rx ry h
  obtain ⟨a, b, xs, ys, rfl, rfl, ha, hb, h⟩ := h
  cases rx
  cases ry
  obtain ⟨its, r, pl, hz⟩ := I.list ha
  obtain ⟨its', r', pl', hz'⟩ := I.list hb
  have l1 := r.length
  have l2 := r'.length
  rcases h with ⟨hne, q⟩ | ⟨he, fx, fy, q⟩
  · exact SeqAt.eq_list_lengthsAt pl.isList pl'.isList (by rw [List.size_toArray, List.size_toArray, bne_iff_ne]; omega) hu ⟨.bl false, H, I, rfl, q⟩
  · refine SeqAt.eq_listAt pl.isList pl'.isList (by rw [List.size_toArray, List.size_toArray]; omega) hu (fun j h1 h2 => eqAt_items r r' fx fy j h1 h2) ⟨.bl _, H, I, rfl, ?_⟩
    rw [List.size_toArray, ← l1, eqL_range he]
    exact q
theorem op_neL (hu : X.A.units < cLine) : OpR X (compareOp .NotEq) (rEqL X.K true) := by
  intro pins s σ H x y v u Q I rx ry h
  obtain ⟨a, b, xs, ys, rfl, rfl, ha, hb, h⟩ := h
  cases rx
  cases ry
  obtain ⟨its, r, pl, hz⟩ := I.list ha
  obtain ⟨its', r', pl', hz'⟩ := I.list hb
  have l1 := r.length
  have l2 := r'.length
  rcases h with ⟨hne, q⟩ | ⟨he, fx, fy, q⟩
  · exact SeqAt.RcNeAt.lists_lengths pl.isList pl'.isList (by rw [List.size_toArray, List.size_toArray, bne_iff_ne]; omega) hu _ _ _ _ ⟨.bl true, H, I, rfl, q⟩
  · refine SeqAt.RcNeAt.lists pl.isList pl'.isList (by rw [List.size_toArray, List.size_toArray]; omega) hu (fun j h1 h2 => eqAt_items r r' fx fy j h1 h2) _ _ _ _ ⟨.bl _, H, I, rfl, ?_⟩
    rw [List.size_toArray, ← l1, eqL_range he]
    exact q
theorem eqL_nil (xs : List V) : eqL xs [] = xs.isEmpty := by cases xs <;> rfl
theorem eqL_ints : ∀ (xs ys : List Int), eqL (iv xs) (iv ys) = decide (xs = ys)
  | [], [] => by simp [eqL]
  | [], y :: ys => by simp [eqL]
  | x :: xs, [] => by simp [eqL]
  | x :: xs, y :: ys => by
    have ih := eqL_ints xs ys
    rw [iv, iv, List.map_cons, List.map_cons]
    show ((x == y) && eqL (iv xs) (iv ys)) = _
    rw [ih]
    by_cases e : x = y
    · subst e; simp
    · simp [e]

/-! ### for x in reversed(list) -/
/-- the list's items from behind, n of them -/
def Itv (K : PySem.W.Frag) (a : Addr) (n : Nat) : It :=
  ⟨fun i H => i < n ∧ ∃ xs, SqL K H a xs ∧ xs.length = n, fun i H x H' => H' = H ∧ ∀ xs, SqL K H a xs → xs[n - 1 - i]? = some x, fun i _ => i = n⟩
theorem turn_rev {P : Program} {w : World} {K : PySem.W.Frag} {tg : Expr} (a it : Addr) (n : Nat) : Turn P w K tg (Itv K a n) [it] it (fun i h => i ≤ n ∧ h.IsRevIter it a ((n : Int) - 1 - (i : Int))) where
  mem := by simp
  obj := fun i h st b hb => by
    have e : b = it := by simpa using hb
    subst e
    obtain ⟨_, o, e, c, d⟩ := st
    exact ⟨o, e, fun v z => by rw [d] at z; cases z⟩
  keep := fun i h h' st k => ⟨st.1, st.2.at fun o e => k it (by simp) o e⟩
  item := by
    intro X hP hw hK hc i pins s σ H E I hf st hg
    subst hP hw hK
    obtain ⟨hi, xs, hq, hn⟩ := hg
    obtain ⟨its, rv, p, hz⟩ := I.list hq
    have hlt : n - 1 - i < xs.length := by omega
    obtain ⟨u, hu, ru⟩ := rv.get (List.getElem?_eq_getElem hlt)
    obtain ⟨f0, f1, f2, f3, f4, f5⟩ := hf it (by simp)
    have ez : (n : Int) - 1 - (i : Int) = ((n - 1 - i : Nat) : Int) := by omega
    have st2 := st.2
    rw [ez] at st2
    refine wpAny_pyNext_rev_item st2 p.isList (x := u) (by simpa using hu) fun h' st' sb => ?_
    have I1 : Inv X pins σ H { s with heap := h' } := I.turned (t' := s.toks) (fun b o hb e => (sb.2 b hb).trans e) f0 f1 f3 f4 f5
    obtain ⟨o, e, c, d⟩ := id st'
    have e2 : ((n - 1 - i : Nat) : Int) - 1 = (n : Int) - 1 - ((i + 1 : Nat) : Int) := by omega
    rw [e2] at st'
    exact ⟨u, rfl, go_of (s := { s with heap := h' }) e c d (by decide) ⟨xs[n - 1 - i], H, I1, ru, ⟨rfl, fun ys hy => by rw [I.list_inj hy hq]; exact List.getElem?_eq_getElem hlt⟩, ⟨by omega, st'⟩, fun b hb => (hf b hb).1⟩⟩
  done := by
    intro X hP hw hK hc i pins s σ H E I hf st hg
    subst hP hw hK
    obtain ⟨f0, f1, f2, f3, f4, f5⟩ := hf it (by simp)
    have hi : i = n := hg
    have ez : (n : Int) - 1 - (i : Int) = -1 := by omega
    have st2 := st.2
    rw [ez] at st2
    exact wpAny_pyNext_rev_end (I.ok.hd hc) st2 fun h' eb => ⟨rfl, I.turned (t' := s.toks) (fun b o hb e => eb b o hb e) f0 f1 f3 f4 f5⟩
  self := fun _ _ _ _ _ st h => wpAny_pyIter_revIter st.2 h
def iRev (K : PySem.W.Frag) (ta : TA) : TI := fun σ H R => ta σ H fun vs H1 => ∃ a xs, vs = [.ref a] ∧ SqL K H1 a xs ∧ R (Itv K a xs.length) H1
theorem pi_rev {tg : Expr} {a : Expr} {ta : TA} {p pos : Pos} (hg : Gl X "reversed") (hm : X.mg "reversed" = none) (ha : PA X [a] ta) (hs : starEach [a] X.env = [(false, eval a X.env)] := by rfl) : PI X tg (.Call (.Name "reversed" p) [a] [] pos) (iRev X.K ta) := by
  intro pins s σ H R I h
  refine Call_ (ld_blt I hg hm boot_reversed (PyProof.Rows.callWith_type1 (thn (ha pos pins s σ H _ I h) fun us s1 ⟨vs, H1, I1, r1, q1⟩ => ?_) hs rfl))
  obtain ⟨l, xs, e, hq, q⟩ := q1
  subst e
  cases r1 with
  | cons r rr =>
    cases rr
    cases r
    obtain ⟨its, rv, pl, hz⟩ := I1.list hq
    have hl := rv.length
    refine call_reversed_list pl.isList ?_
    have I2 : Inv X pins σ H1 { s1 with heap := s1.heap.push (revObj l ((its.toArray.size : Int) - 1)) } := I1.kept (t' := s1.toks) fun b o e => Heap.get?_push_of_some _ e
    have st0 : (s1.heap.push (revObj l ((its.toArray.size : Int) - 1))).IsRevIter s1.heap.objs.size l ((xs.length : Int) - 1 - ((0 : Nat) : Int)) := by
      refine ⟨_, Heap.get?_push_size _ rfl, rfl, ?_⟩
      have : (its.toArray.size : Int) - 1 = (xs.length : Int) - 1 - ((0 : Nat) : Int) := by rw [List.size_toArray]; omega
      rw [← this]
      rfl
    refine wpAny_pyIter_revIter (s := { s1 with heap := s1.heap.push (revObj l ((its.toArray.size : Int) - 1)) }) st0 ?_
    refine ⟨s1.heap.objs.size, [s1.heap.objs.size], _, _, H1, rfl, I2, turn_rev l _ xs.length, ⟨Nat.zero_le _, st0⟩, fun b hb => ?_, q⟩
    have e : b = s1.heap.objs.size := by simpa using hb
    subst e
    exact I1.fpOk (Nat.le_refl _) (I1.hok.fresh (Nat.le_refl _))
/-- over a list from behind, that the body leaves as it is -/
theorem for_rev {K : PySem.W.Frag} {a : Addr} {xs : List V} {g : TG} {tb : TS} {D : Ends} {σ : St} {H : Hp} (Pv : Nat → St → Hp → Prop) (h0 : Pv 0 σ H) (hl : ∀ i σ H, i ≤ xs.length → Pv i σ H → SqL K H a xs)
    (turn : ∀ i x σ H, i < xs.length → xs[xs.length - 1 - i]? = some x → Pv i σ H → g x σ H fun σ2 H2 => tb { D with nx := Pv (i + 1), ct := Pv (i + 1), bk := D.nx } σ2 H2) (fin : ∀ σ H, Pv xs.length σ H → D.nx σ H) :
    ∃ W : Nat → Nat → St → Hp → Prop, (∃ m, W 0 m σ H) ∧ ∀ i m σ H, W i m σ H →
      ((Itv K a xs.length).stop i H ∧ D.nx σ H) ∨ ((Itv K a xs.length).go i H ∧ ∃ N : St → Hp → Prop, (∀ σ' H', N σ' H' → ∃ m', m' < m ∧ W (i + 1) m' σ' H') ∧ ∀ x H', (Itv K a xs.length).yld i H x H' → g x σ H' fun σ2 H2 => tb { D with nx := N, ct := N, bk := D.nx } σ2 H2) := by
  refine ⟨fun i m σ H => i + m = xs.length ∧ Pv i σ H, ⟨xs.length, by omega, h0⟩, fun i m σ H ⟨hm, hp⟩ => ?_⟩
  by_cases hi : i = xs.length
  · subst hi
    exact .inl ⟨rfl, fin σ H hp⟩
  · refine .inr ⟨⟨by omega, xs, hl i σ H (by omega) hp, rfl⟩, Pv (i + 1), fun σ' H' hn => ⟨m - 1, by omega, by omega, hn⟩, fun x H' hy => ?_⟩
    obtain ⟨rfl, hx⟩ := hy
    exact turn i x σ H' (by omega) (hx xs (hl i σ H' (by omega) hp)) hp
end
end L2

set_option Elab.async false
set_option linter.all false
set_option maxRecDepth 100000
namespace L2
open PySem PySem.Spec PyProof.Rows
/-- a def of the text that keeps a promise, as callers want it -/
def Cal (P : Program) (w : World) (K : PySem.W.Frag) (mg : Str → Option Value) (base : Heap) (k : Nat) (x : Str) (ps : List Str) (sp : Sp) : Prop :=
  ∃ (f : Addr) (fd : FuncData), FnOk P w K mg base CX0 k f fd ps sp ∧ Binds K fd ps [] ∧ PySem.W.keepIn K (.ref f) = true ∧ mg x = some (.ref f)
theorem pe_cal {X : Cx} {k : Nat} {x : Str} {ps : List Str} {sp : Sp} {p pos : Pos} {e : Expr} {es : List Expr} {t : TA} (C : Cal X.prog X.w X.K X.mg X.base k x ps sp) (hr : Room k X.A) (hg : Gl X x) (ha : PA X (e :: es) t)
    (hd : (x == ("__debug__" : Str)) = false := by decide) (hs : starEach (e :: es) X.env = (false, eval e X.env) :: starEach es X.env := by rfl) (hpl : (backTo pos (starEach es X.env)).any (·.1) = false := by rfl) :
    PE X (.Call (.Name x p) (e :: es) [] pos) (tCall sp [] E0 t) := by
  obtain ⟨f, fd, G, b, kp, m⟩ := C
  exact pe_call G hr hg m kp b .nil pass0 ha hd hs hpl
/-- the built-in names that the text doesn't bind -/
structure Bl (mg : Str → Option Value) : Prop where
  len : mg "len" = none
  range : mg "range" = none
  list : mg "list" = none
  int : mg "int" = none
  bool : mg "bool" = none
  tuple : mg "tuple" = none
  isinstance : mg "isinstance" = none
  reversed : mg "reversed" = none
  sorted : mg "sorted" = none
  min : mg "min" = none
  max : mg "max" = none
  set : mg "set" = none
  dict : mg "dict" = none
  enumerate : mg "enumerate" = none
  sum : mg "sum" = none
theorem kit_ii {K : PySem.W.Frag} : PySem.W.kitOne K (.type "int") (.type "int") = some true := rfl
theorem kit_bb {K : PySem.W.Frag} : PySem.W.kitOne K (.type "bool") (.type "bool") = some true := rfl
theorem kit_ll {K : PySem.W.Frag} : PySem.W.kitOne K (.type "list") (.type "list") = some true := rfl
theorem kit_tt {K : PySem.W.Frag} : PySem.W.kitOne K (.type "tuple") (.type "tuple") = some true := rfl
theorem kit_ib {K : PySem.W.Frag} : PySem.W.kitOne K (.type "int") (.type "bool") = some false := by with_unfolding_all rfl
theorem small63 {n : Nat} (h : n ≤ 1000) : n ≤ sizeLine := Nat.le_of_lt (small1000 h)
theorem same_new {H : Hp} {p : Addr} (h : H p = none) (o : HO) : Same H (upd H p o) := fun b u q => by rw [upd_ne (ne_of_none q h)]; exact q
theorem Same.get {H H' : Hp} (s : Same H H') {a : Addr} {o : HO} (h : H a = some o) : H' a = some o := s a o h
/-- the end of a statement, said once -/
def tCut (t : TS) : TS := fun D σ H => ∃ R : St → Hp → Prop, t { D with nx := R } σ H ∧ ∀ σ' H', R σ' H' → D.nx σ' H'
theorem ps_cut {X : Cx} {st : Stmt} {t : TS} (h : PS X st t) : PS X st (tCut t) := by
  intro pins s σ H D I hw
  obtain ⟨R, hw, k⟩ := hw
  refine thn (h pins s σ H _ I hw) fun fl s' hs => ?_
  cases fl with
  | next =>
    obtain ⟨σ', H', J, q⟩ := hs
    exact ⟨σ', H', J, k _ _ q⟩
  | brk => exact hs
  | cont => exact hs
  | ret u => exact hs
def oV : Option Int → V
  | none => .non
  | some i => .int i
end L2

set_option Elab.async false
set_option linter.all false
set_option maxRecDepth 100000
set_option maxHeartbeats 1000000
namespace L2
open PySem PySem.Spec PyProof.Rows

/-! ### the closure of a comprehension's block -/
def clo (env : Env) : List (Str × NameKind) → List (Str × Addr) → List (Str × Addr)
  | [], cs => cs
  | (n, k) :: r, cs => clo env r (if k == .free then (n, (env.cells.lookup n).getD 0) :: cs else cs)
theorem closureFor_clo {scope : Scope} {env : Env} (h : ∀ x ∈ scope.names, x.2 = .free → ∃ c, env.cells.lookup x.1 = some c) : closureFor scope env = pure (clo env scope.names []) := by
  have gen : ∀ (l : List (Str × NameKind)) (cs : List (Str × Addr)), (∀ x ∈ l, x.2 = .free → ∃ c, env.cells.lookup x.1 = some c) →
      forIn l cs (fun (x : Str × NameKind) (r : List (Str × Addr)) => if (x.2 == NameKind.free) = true then do let a ← cellOf env x.1; pure (ForInStep.yield ((x.1, a) :: r)) else pure (ForInStep.yield r)) = (pure (clo env l cs) : Sem (List (Str × Addr))) := by
    intro l
    induction l with
    | nil => intro cs _; rfl
    | cons x l ih =>
      intro cs hx
      obtain ⟨n, k⟩ := x
      have hl : ∀ x ∈ l, x.2 = .free → ∃ c, env.cells.lookup x.1 = some c := fun y hy => hx y (List.mem_cons_of_mem _ hy)
      rw [List.forIn_cons]
      by_cases hk : (k == NameKind.free) = true
      · obtain ⟨c, hc⟩ := hx (n, k) List.mem_cons_self (by simpa using hk)
        have e : cellOf env n = pure c := by unfold cellOf; rw [show env.cells.lookup n = some c from hc]
        show ((if (k == NameKind.free) = true then _ else _) >>= _) = _
        rw [if_pos hk, e, pure_bind, pure_bind]
        show forIn l ((n, c) :: cs) _ = _
        rw [ih _ hl]
        show _ = pure (clo env l (if (k == NameKind.free) = true then (n, (env.cells.lookup n).getD 0) :: cs else cs))
        rw [if_pos hk, show env.cells.lookup n = some c from hc]
        rfl
      · show ((if (k == NameKind.free) = true then _ else _) >>= _) = _
        rw [if_neg hk, pure_bind]
        show forIn l cs _ = _
        rw [ih _ hl]
        show _ = pure (clo env l (if (k == NameKind.free) = true then (n, (env.cells.lookup n).getD 0) :: cs else cs))
        rw [if_neg hk]
  have := gen scope.names [] h
  simp only [closureFor]
  exact (bind_pure _).trans this
theorem clo_lookup {env : Env} {y : Str} {c : Addr} : ∀ (l : List (Str × NameKind)) (cs : List (Str × Addr)), (∀ x ∈ l, x.2 = .free → ∃ c, env.cells.lookup x.1 = some c) → (∀ y c, cs.lookup y = some c → env.cells.lookup y = some c) →
    (clo env l cs).lookup y = some c → env.cells.lookup y = some c
  | [], _, _, hcs, h => hcs _ _ h
  | (n, k) :: r, cs, hx, hcs, h => by
    refine clo_lookup r _ (fun y hy => hx y (List.mem_cons_of_mem _ hy)) (fun z d hz => ?_) h
    by_cases hk : (k == NameKind.free) = true
    · rw [if_pos hk] at hz
      obtain ⟨c', hc'⟩ := hx (n, k) List.mem_cons_self (by simpa using hk)
      have hc' : env.cells.lookup n = some c' := hc'
      rw [List.lookup_cons] at hz
      cases hb : z == n with
      | true =>
        rw [hb, hc'] at hz
        have e : z = n := by simpa using hb
        rw [e, hc']; exact hz
      | false =>
        rw [hb] at hz
        exact hcs _ _ hz
    · rw [if_neg hk] at hz
      exact hcs _ _ hz
theorem clo_has {env : Env} {y : Str} : ∀ (l : List (Str × NameKind)) (cs : List (Str × Addr)), ((y, NameKind.free) ∈ l ∨ ∃ c, cs.lookup y = some c) → ∃ c, (clo env l cs).lookup y = some c
  | [], _, h => by
    rcases h with h | h
    · cases h
    · exact h
  | (n, k) :: r, cs, h => by
    refine clo_has r _ ?_
    rcases h with h | ⟨c, h⟩
    · rcases List.mem_cons.mp h with e | h
      · cases e
        refine .inr ⟨(env.cells.lookup y).getD 0, ?_⟩
        rw [if_pos (by rfl), List.lookup_cons]
        simp
      · exact .inl h
    · by_cases hk : (k == NameKind.free) = true
      · rw [if_pos hk]
        refine .inr ?_
        rw [List.lookup_cons]
        cases y == n with
        | true => exact ⟨_, rfl⟩
        | false => exact ⟨c, h⟩
      · rw [if_neg hk]
        exact .inr ⟨c, h⟩

/-! ### new cells behind the closure -/
theorem cellsFrom_app : ∀ (names : List (Str × NameKind)) (n : Nat) (acc : List (Str × Addr)), cellsFrom n names acc = cellsFrom n names [] ++ acc
  | [], _, _ => rfl
  | (x, k) :: r, n, acc => by
    unfold cellsFrom
    split
    · rw [cellsFrom_app r (n + 1) ((x, n) :: acc), cellsFrom_app r (n + 1) [(x, n)], List.append_assoc]
      rfl
    · exact cellsFrom_app r n acc
theorem lookup_app {α : Type} {y : Str} : ∀ {l m : List (Str × α)} {c : α}, (l ++ m).lookup y = some c → l.lookup y = some c ∨ (l.lookup y = none ∧ m.lookup y = some c)
  | [], _, _, h => .inr ⟨rfl, h⟩
  | (x, v) :: l, m, c, h => by
    rw [List.cons_append, List.lookup_cons] at h
    rw [List.lookup_cons]
    cases hb : y == x with
    | true => rw [hb] at h; exact .inl h
    | false => rw [hb] at h; exact lookup_app h
theorem app_lookup {α : Type} {y : Str} {c : α} : ∀ {l m : List (Str × α)}, l.lookup y = none → m.lookup y = some c → (l ++ m).lookup y = some c
  | [], _, _, h => h
  | (x, v) :: l, m, h, h' => by
    rw [List.lookup_cons] at h
    rw [List.cons_append, List.lookup_cons]
    cases hb : y == x with
    | true => rw [hb] at h; cases h
    | false => rw [hb] at h; exact app_lookup h h'
theorem cellsFrom_name {y : Str} {c : Addr} : ∀ (names : List (Str × NameKind)) (n : Nat) (acc : List (Str × Addr)), (y, c) ∈ cellsFrom n names acc → (y, NameKind.cell) ∈ names ∨ (y, c) ∈ acc
  | [], _, _, h => .inr h
  | (x, k) :: r, n, acc, h => by
    unfold cellsFrom at h
    split at h
    · rename_i hk
      rcases cellsFrom_name r (n + 1) _ h with h | h
      · exact .inl (List.mem_cons_of_mem _ h)
      · rcases List.mem_cons.mp h with e | h
        · cases e
          have : k = .cell := by simpa using hk
          subst this
          exact .inl List.mem_cons_self
        · exact .inr h
    · rcases cellsFrom_name r n acc h with h | h
      · exact .inl (List.mem_cons_of_mem _ h)
      · exact .inr h
theorem newEnv_comp {M : Model} {A : Around} {E : Value → Shared → Prop} {s : Shared} {scope : Scope} {globals : Addr} {cl : List (Str × Addr)} {qual : Str} {env : Env} {Q : Env → Shared → Prop}
    (hQ : Q (newEnv scope s.heap.objs.size globals (cellsFrom (s.heap.objs.size + 1) scope.names cl) qual none .none (some env) builtinsNs) { s with heap := pushCells (s.heap.push { cls := .type "dict", data := .dict #[] }) scope.names }) :
    wpAny M A (newFunctionEnv scope globals cl [] qual none .none (some env)) Q E s := by
  simp only [newFunctionEnv, Option.isSome_some, if_true]
  refine wpAny_bind (wpAny_alloc ?_)
  refine wpAny_bind (wpAny_layCells _ (fun name kind cells => by cases hkc : kind == NameKind.cell <;> simp [hkc]) _ _ _ _ ?_)
  rw [show ({ s with heap := s.heap.push { cls := .type "dict", data := .dict #[] } } : Shared).heap.objs.size = s.heap.objs.size + 1 from Heap.size_push ..]
  exact wpAny_bind (wpAny_pure (wpAny_pure hQ))

/-! ### the context of the block -/
abbrev compCells (X : Cx) (scope : Scope) (C : Addr) : List (Str × Addr) := cellsFrom (C + 1) scope.names (clo X.env scope.names [])
def compCx (X : Cx) (N' : List Str) (scope : Scope) (C : Addr) (fp : List Addr) (s₀ : Shared) (H₀ : Hp) : Cx where
  prog := X.prog
  w := X.w
  K := X.K
  mg := X.mg
  base := X.base
  A := X.A
  N := N'
  s₀ := s₀
  H₀ := H₀
  env := compEnvC scope (compCells X scope C) C X.env
  outer := X.stack
  stack := X.stack
  ex := fp
  fn := fun y => decide (scope.names.lookup y = some .cell)
  calm := X.calm
  pn := X.pn
  xe := fun _ _ => False
def isCf : Option NameKind → Bool
  | some .cell => true
  | some .free => true
  | _ => false
def compOk (X : Cx) (scope : Scope) (fv : List Str) (ix : List Nat) : Bool :=
  (scope.names.all fun y => decide (scope.names.lookup y.1 = some y.2) && (y.2 != .free || isCf (X.env.scope.names.lookup y.1)))
  && decide (fv.length = ix.length) && ((fv.zip ix).all fun p => decide (X.N[p.2]? = some p.1) && isCf (X.env.scope.names.lookup p.1) && decide (scope.names.lookup p.1 = some .free))
def cap (ix : List Nat) (σ : St) : St := ix.map fun i => (σ[i]?).join
/-- the tests of a comprehension -/
def PF (X : Cx) (ifs : List Expr) (t : TT) : Prop :=
  ∀ (pins : List (Addr × Obj)) (s : Shared) (σ : St) (H : Hp) (Q : Bool → Hp → Prop), Inv X pins σ H s → t σ H Q →
    wpAny (model X.prog X.w) X.A (forIn ifs true fun c r => if r = true then do let ok ← isTrue c X.env (eval c X.env); pure (ForInStep.yield ok) else pure (ForInStep.yield r)) (TP X pins σ Q) X.xe s
def tTrue : TT := fun _ H Q => Q true H
theorem pf_nil {X : Cx} : PF X [] tTrue := fun pins s σ H Q I h => wpAny_tests_nil ⟨H, I, h⟩
theorem pf_one {X : Cx} {c : Expr} {t : TT} (h : PT X c t) : PF X [c] t := fun pins s σ H Q I hw => wpAny_tests_one (h pins s σ H Q I hw)
/-- what the turns of a comprehension ask; the new list stands at D -/
def CompG (J : It) (tc : TT) (te : TE) (c : St) (H : Hp) (Q : VK) (D : Addr) : Prop := ∃ W : Nat → Nat → Hp → Prop, (∃ m, W 0 m H) ∧ ∀ i m H2, W i m H2 →
  (J.stop i H2 ∧ Q (.ref D) H2) ∨ (J.go i H2 ∧ ∀ x H3, J.yld i H2 x H3 → tc (some x :: c) H3 fun b H4 => if b = true then te (some x :: c) H4 fun y H5 => ∃ ys, H5 D = some (.lst ys) ∧ ys.length < sizeLine ∧ ∃ m', m' < m ∧ W (i + 1) m' (upd H5 D (.lst (ys ++ [y])))
    else ∃ m', m' < m ∧ W (i + 1) m' H4)
def tComp (wi : TI) (ix : List Nat) (tc : TT) (te : TE) : TE := fun σ H Q => wi σ H fun J H1 => ∀ D, H1 D = none → CompG J tc te (cap ix σ) (upd H1 D (.lst [])) Q D

section
variable {X : Cx} {scope : Scope} {fv : List Str} {ix : List Nat} {x : Str}
structure CompFacts (X : Cx) (scope : Scope) (fv : List Str) (ix : List Nat) : Prop where
  con : ∀ y ∈ scope.names, scope.names.lookup y.1 = some y.2
  fre : ∀ y ∈ scope.names, y.2 = .free → X.env.kindOf y.1 = some .cell ∨ X.env.kindOf y.1 = some .free
  len : fv.length = ix.length
  cap : ∀ (j : Nat) (y : Str) (i : Nat), fv[j]? = some y → ix[j]? = some i → X.N[i]? = some y ∧ (X.env.kindOf y = some .cell ∨ X.env.kindOf y = some .free) ∧ scope.names.lookup y = some .free
theorem isCf_of {o : Option NameKind} (h : isCf o = true) : o = some .cell ∨ o = some .free := by
  cases o with
  | none => cases h
  | some k => cases k <;> first | exact .inl rfl | exact .inr rfl | cases h
theorem compFacts (h : compOk X scope fv ix = true) : CompFacts X scope fv ix := by
  unfold compOk at h
  rw [Bool.and_eq_true, Bool.and_eq_true] at h
  obtain ⟨⟨h1, h2⟩, h3⟩ := h
  have g1 := List.all_eq_true.mp h1
  have g3 := List.all_eq_true.mp h3
  refine ⟨fun y hy => ?_, fun y hy e => ?_, of_decide_eq_true h2, fun j y i e1 e2 => ?_⟩
  · have := g1 y hy
    rw [Bool.and_eq_true] at this
    exact of_decide_eq_true this.1
  · have := g1 y hy
    rw [Bool.and_eq_true, e] at this
    have h2 : isCf (X.env.scope.names.lookup y.1) = true := by simpa using this.2
    exact isCf_of h2
  · have m : (y, i) ∈ fv.zip ix := List.mem_of_getElem? (i := j) (List.getElem?_zip_eq_some (z := (y, i)) |>.mpr ⟨e1, e2⟩)
    have := g3 _ m
    rw [Bool.and_eq_true, Bool.and_eq_true] at this
    exact ⟨of_decide_eq_true this.1.1, isCf_of this.1.2, of_decide_eq_true this.2⟩
theorem relabel_free {scope : Scope} {env : Env} : ∀ {names : List (Str × NameKind)} {y : Str}, names.lookup y = some .free →
    (names.map fun (n, k) => if (k == NameKind.free && env.scope.kind == .function && env.kindOf n == some .cell) then (n, NameKind.cell) else (n, k)).lookup y = some .cell ∨
    (names.map fun (n, k) => if (k == NameKind.free && env.scope.kind == .function && env.kindOf n == some .cell) then (n, NameKind.cell) else (n, k)).lookup y = some .free
  | [], _, h => by cases h
  | (n, k) :: r, y, h => by
    have ih := @relabel_free scope env r y
    show List.lookup y ((if (k == NameKind.free && env.scope.kind == .function && env.kindOf n == some .cell) = true then (n, NameKind.cell) else (n, k)) :: _) = _ ∨ List.lookup y ((if (k == NameKind.free && env.scope.kind == .function && env.kindOf n == some .cell) = true then (n, NameKind.cell) else (n, k)) :: _) = _
    rw [List.lookup_cons] at h
    cases hb : y == n with
    | true =>
      rw [hb] at h
      cases h
      split
      · exact .inl (by rw [List.lookup_cons, hb])
      · exact .inr (by rw [List.lookup_cons, hb])
    | false =>
      rw [hb] at h
      split <;> simpa only [List.lookup_cons, hb] using ih h
theorem relabel_kind {env : Env} : ∀ {names : List (Str × NameKind)} {y : Str},
    ((names.map fun (n, k) => if (k == NameKind.free && env.scope.kind == .function && env.kindOf n == some .cell) then (n, NameKind.cell) else (n, k)).lookup y = some .cell ∨
    (names.map fun (n, k) => if (k == NameKind.free && env.scope.kind == .function && env.kindOf n == some .cell) then (n, NameKind.cell) else (n, k)).lookup y = some .free) → (y, NameKind.free) ∈ names ∨ (y, NameKind.cell) ∈ names
  | [], _, h => by rcases h with h | h <;> cases h
  | (n, k) :: r, y, h => by
    have ih := @relabel_kind env r y
    change List.lookup y ((if (k == NameKind.free && env.scope.kind == .function && env.kindOf n == some .cell) = true then (n, NameKind.cell) else (n, k)) :: _) = _ ∨ List.lookup y ((if (k == NameKind.free && env.scope.kind == .function && env.kindOf n == some .cell) = true then (n, NameKind.cell) else (n, k)) :: _) = _ at h
    cases hb : y == n with
    | true =>
      have e : y = n := by simpa using hb
      by_cases hc : (k == NameKind.free && env.scope.kind == .function && env.kindOf n == some .cell) = true
      · rw [Bool.and_eq_true, Bool.and_eq_true] at hc
        have : k = .free := by simpa using hc.1.1
        subst this e
        exact .inl List.mem_cons_self
      · rw [if_neg hc] at h
        simp only [List.lookup_cons, hb] at h
        rcases h with h | h
        · have := Option.some.inj h
          subst this e
          exact .inr List.mem_cons_self
        · have := Option.some.inj h
          subst this e
          exact .inl List.mem_cons_self
    | false =>
      refine (ih ?_).imp (List.mem_cons_of_mem _) (List.mem_cons_of_mem _)
      by_cases hc : (k == NameKind.free && env.scope.kind == .function && env.kindOf n == some .cell) = true
      · rw [if_pos hc] at h
        simpa only [List.lookup_cons, hb] using h
      · rw [if_neg hc] at h
        simpa only [List.lookup_cons, hb] using h
theorem relabel_cell {env : Env} : ∀ {names : List (Str × NameKind)} {y : Str}, names.lookup y = some .cell →
    (names.map fun (n, k) => if (k == NameKind.free && env.scope.kind == .function && env.kindOf n == some .cell) then (n, NameKind.cell) else (n, k)).lookup y = some .cell
  | [], _, h => by cases h
  | (n, k) :: r, y, h => by
    have ih := @relabel_cell env r y
    show List.lookup y ((if (k == NameKind.free && env.scope.kind == .function && env.kindOf n == some .cell) = true then (n, NameKind.cell) else (n, k)) :: _) = _
    rw [List.lookup_cons] at h
    cases hb : y == n with
    | true =>
      rw [hb] at h
      cases h
      rw [if_neg (by intro z; cases z)]
      rw [List.lookup_cons, hb]
    | false =>
      rw [hb] at h
      split <;> simpa only [List.lookup_cons, hb] using ih h
theorem cap_get {ix : List Nat} {σ : St} {j : Nat} {v : V} (h : (cap ix σ)[j]? = some (some v)) : ∃ i, ix[j]? = some i ∧ σ[i]? = some (some v) := by
  unfold cap at h
  rw [List.getElem?_map] at h
  cases e : ix[j]? with
  | none => rw [e] at h; cases h
  | some i =>
    rw [e] at h
    have h' : (σ[i]?).join = some v := Option.some.inj h
    refine ⟨i, rfl, ?_⟩
    cases e2 : σ[i]? with
    | none => rw [e2] at h'; cases h'
    | some o => rw [e2] at h'; exact congrArg some h'
/-- the block's first state -/
theorem inv_comp {pins : List (Addr × Obj)} {σ : St} {H : Hp} {s s4 : Shared} {fp : List Addr} {D C : Addr} {m : Str → Option Value} {n : Nat} (I : Inv X pins σ H s) (F : CompFacts X scope fv ix) (hk : scope.kind = .function)
    (f2 : ∀ b ∈ fp, FpOk X pins H b) (fo : ∀ b ∈ fp, b < s.heap.objs.size) (hD : D = s.heap.objs.size) (hC : s.heap.objs.size < C) (hs4 : s4.os = s.os ∧ s4.gens = s.gens) (hns : s4.heap.Ns C m)
    (old : ∀ b o, s.heap.get? b = some o → s4.heap.get? b = some o) (hacc : s4.heap.get? D = some { cls := .type "list", data := .seq ([] : List Value).toArray n })
    (new : CellsOk s4.heap (C + 1) (cellsFrom (C + 1) scope.names [])) :
    Inv (compCx X (x :: fv) scope C fp s H) pins (none :: cap ix σ) (upd H D (.lst [])) s4 := by
  have hfr : ∀ y ∈ scope.names, y.2 = .free → ∃ c, X.env.cells.lookup y.1 = some c := fun y hy e => I.ok.has y.1 (F.fre y hy e)
  have hlk0 : ∀ y c, (clo X.env scope.names []).lookup y = some c → X.env.cells.lookup y = some c := fun y c h => clo_lookup scope.names [] hfr (fun _ _ z => by cases z) h
  -- a cell of the block is new, or one of the frame's
  have hlk : ∀ y c, (compCells X scope C).lookup y = some c → ((y, c) ∈ cellsFrom (C + 1) scope.names [] ∧ s.heap.objs.size + 1 < c) ∨ (X.env.cells.lookup y = some c ∧ Nat.succ c ≤ s.heap.objs.size) := fun y c h => by
    rw [compCells, cellsFrom_app] at h
    rcases lookup_app h with h | ⟨_, h⟩
    · exact .inl ⟨PySem.mem_of_lookup h, Nat.lt_of_lt_of_le (Nat.succ_lt_succ hC) (new.empty _ _ (PySem.mem_of_lookup h)).2⟩
    · obtain ⟨v, q⟩ := I.cell y c (hlk0 y c h)
      exact .inr ⟨hlk0 y c h, q.lt⟩
  have hnD : H D = none := by rw [hD]; exact I.hok.fresh (Nat.le_refl _)
  refine ⟨⟨I.ok.mod, hk, I.ok.glob, I.ok.blt, Nat.le_of_lt hC, fun y z c h1 h2 => ?_, fun y hy => ?_, fun y c hy h => ?_, I.ok.hd, I.ok.frames, .inl rfl, fun b hb => ⟨?_, fun y c h => ?_⟩, I.bs, Nat.le_trans I.ok.bsz I.sz, fun b o e hb => ?_, fun b hb z => ?_, I.stack, I.stkFree⟩,
    hs4.1, by rw [hs4.2]; exact I.bare, Un.laid old (by rw [hD]; exact Nat.le_refl _) hnD, ⟨m, hns, fun i y v e1 e2 e3 => ?_⟩, fun y c h => ?_, ?_, fun y c h => ?_, fun p hp => ?_, ?_, ?_⟩
  · rcases hlk y c h1 with ⟨h1, l1⟩ | ⟨h1, l1⟩ <;> rcases hlk z c h2 with ⟨h2, l2⟩ | ⟨h2, l2⟩
    · exact name_of_addr new.apart h1 h2
    · omega
    · omega
    · exact I.ok.inj y z c h1 h2
  · have q : ∃ c, (compCells X scope C).lookup y = some c := by
      refine Option.isSome_iff_exists.mp (PySem.W.cellsFrom_some scope.names (C + 1) _ ?_)
      rcases relabel_kind (env := X.env) hy with h | h
      · exact .inr (Option.isSome_iff_exists.mpr (clo_has scope.names [] (.inl h)))
      · exact .inl (F.con _ h)
    exact q
  · have hy' : scope.names.lookup y = some .cell := of_decide_eq_true hy
    rcases hlk y c h with ⟨_, l⟩ | ⟨_, l⟩
    · show s.heap.objs.size ≤ c
      omega
    · exfalso
      have h : (compCells X scope C).lookup y = some c := h
      rw [compCells, cellsFrom_app] at h
      have isn : ((cellsFrom (C + 1) scope.names []).lookup y).isSome = true := PySem.W.cellsFrom_some scope.names (C + 1) [] (.inl hy')
      rcases lookup_app h with h | ⟨h, _⟩
      · have := Nat.lt_of_lt_of_le (Nat.succ_lt_succ hC) (new.empty _ _ (PySem.mem_of_lookup h)).2
        omega
      · rw [h] at isn; cases isn
  · exact Nat.ne_of_lt (Nat.lt_trans (fo b hb) hC)
  · rcases hlk y c h with ⟨_, l⟩ | ⟨h, _⟩
    · exact Nat.ne_of_gt (Nat.lt_trans (fo b hb) (Nat.lt_of_succ_lt l))
    · exact (f2 b hb).2.2.2.2.1 y c h
  · obtain ⟨_, _, f3, f4, _⟩ := f2 b hb
    rcases f4 with f4 | f4
    · exact I.ok.noex b o e f4
    · exact absurd (Nat.lt_of_lt_of_le (Nat.lt_of_lt_of_le (Heap.lt_size e) I.ok.bsz) f4) (Nat.lt_irrefl _)
  · obtain ⟨_, f1, f3, _⟩ := f2 b hb
    rcases List.mem_cons.mp (I.stkSub b z) with z | z
    · exact f1 z
    · exact f3 z
  · cases i with
    | zero => cases e2
    | succ j =>
      have e1 : fv[j]? = some y := e1
      have e2 : (cap ix σ)[j]? = some (some v) := e2
      obtain ⟨i, hi, hv⟩ := cap_get e2
      obtain ⟨hN, hkd, hfree⟩ := F.cap j y i e1 hi
      obtain ⟨m0, hn0, hl0⟩ := I.loc
      obtain ⟨u, r, l⟩ := hl0 i y v hN hv (.inr hkd)
      refine ⟨u, r, .inr ⟨relabel_free (scope := scope) (env := X.env) hfree, ?_⟩⟩
      rcases l with ⟨hloc, _⟩ | ⟨_, c, hc, hcell⟩
      · rcases hkd with z | z <;> (rw [hloc] at z; cases z)
      · obtain ⟨c', hc'⟩ := clo_has (env := X.env) (y := y) scope.names [] (.inl (PySem.mem_of_lookup hfree))
        have := hlk0 y c' hc'
        rw [hc] at this
        cases this
        refine ⟨c, ?_, hcell.keeps old⟩
        show (compCells X scope C).lookup y = some c
        rw [compCells, cellsFrom_app]
        refine app_lookup ?_ hc'
        cases q : (cellsFrom (C + 1) scope.names []).lookup y with
        | none => rfl
        | some d =>
          rcases cellsFrom_name _ _ _ (PySem.mem_of_lookup q) with z | z
          · have := F.con _ z
            rw [show scope.names.lookup y = some .free from hfree] at this
            cases this
          · cases z
  · rcases hlk y c h with ⟨h, _⟩ | ⟨h, _⟩
    · exact ⟨_, (new.empty _ _ h).1⟩
    · obtain ⟨v, q⟩ := I.cell y c h
      exact ⟨v, q.keeps old⟩
  · show upd H D (.lst []) C = none
    rw [upd_ne (by rw [hD]; exact Nat.ne_of_gt hC)]
    exact I.hok.fresh (Nat.le_of_lt hC)
  · show upd H D (.lst []) c = none
    rcases hlk y c h with ⟨_, l⟩ | ⟨h, l⟩
    · rw [upd_ne (by rw [hD]; exact Nat.ne_of_gt (Nat.lt_of_succ_lt l))]
      exact I.hok.fresh (Nat.le_of_lt (Nat.lt_of_succ_lt l))
    · rw [upd_ne (by rw [hD]; exact Nat.ne_of_lt l)]
      exact I.freeC y c h
  · obtain ⟨p1, p2, p3, p4, p5⟩ := I.pin p hp
    have hlt := Heap.lt_size p1
    refine ⟨old _ _ p1, ?_, Nat.ne_of_lt (Nat.lt_trans hlt hC), fun z => ?_, p5⟩
    · rw [upd_ne (by rw [hD]; exact Nat.ne_of_lt hlt)]; exact p2
    · rcases List.mem_cons.mp (I.stkSub p.1 z) with z | z
      · exact p3 z
      · exact p4 z
  · exact I.hok.laid old (by rw [hD]; exact Nat.le_refl _) ⟨Nat.zero_le _, [], n, .nil, hacc⟩
  · show (none :: cap ix σ).length = (x :: fv).length
    unfold cap
    rw [List.length_cons, List.length_cons, List.length_map, F.len]
end

section
variable {X : Cx}
/-- the loop of a comprehension, from its first state to where acc is handed on -/
theorem comp_loop {elt iter : Expr} {x : Str} {px pos : Pos} {ifs : List Expr} {scope : Scope} {tc : TT} {te : TE} {fv : List Str} {ix : List Nat} {pins : List (Addr × Obj)} {σ : St} {H : Hp} {s : Shared} {it : Addr} {fp : List Addr} {tn : Nat → Heap → Prop} {J : It}
    {R : Value → Addr → Result → Shared → Prop} {Q : VK} {E : Value → Shared → Prop} (hc : X.calm = true) (hN : (x :: fv).Nodup) (hx : scope.names.lookup x = some .local ∨ scope.names.lookup x = some .cell)
    (ht : ∀ C fp s₀ H₀, PF (compCx X (x :: fv) scope C fp s₀ H₀) ifs tc) (he : ∀ C fp s₀ H₀, PE (compCx X (x :: fv) scope C fp s₀ H₀) elt te)
    (hk : scope.kind = .function) (F : CompFacts X scope fv ix) (I : Inv X pins σ H s) (T : Turn X.prog X.w X.K (.Name x px) J fp it tn) (st : tn 0 s.heap) (f2 : ∀ b ∈ fp, FpOk X pins H b)
    (h : ∀ D, H D = none → CompG J tc te (cap ix σ) (upd H D (.lst [])) Q D)
    (hR : ∀ (D C : Addr) (H' : Hp) (s' : Shared), s.heap.objs.size ≤ C → (∃ m, s'.heap.Ns C m) → H' C = none → Inv X pins σ H' s' → Q (.ref D) H' → R (.ref D) C (.ok .next) s') :
    wpAny (model X.prog X.w) X.A (newList []) (fun acc s₃ => wpAny (model X.prog X.w) X.A (newFunctionEnv scope X.env.globals (clo X.env scope.names []) [] X.env.qual none .none (some X.env)) (fun cenv s₄ =>
      codeAny (model X.prog X.w) X.A (.compStart (.ListComp elt [⟨.Name x px, iter, ifs, 0⟩] scope pos) 0 (.ref it) acc { cenv with scope := relabel scope X.env }) (R acc cenv.locals) s₄) E s₃) E s := by
  refine wpAny_newObj_type (newEnv_comp ?_)
  dsimp only
  generalize hH2 : s.heap.push { cls := .type "list", dict := none, data := .seq ([] : List Value).toArray } = H2
  have hC : H2.objs.size = s.heap.objs.size + 1 := by rw [← hH2, Heap.size_push]
  generalize hh1 : pushCells (H2.push { cls := .type "dict", data := .dict #[] }) scope.names = h₁
  have old2 : ∀ b o, H2.get? b = some o → h₁.get? b = some o := fun b o e => hh1 ▸ pushCells_keeps _ _ b o (Heap.get?_push_of_some _ e)
  have old : ∀ b o, s.heap.get? b = some o → h₁.get? b = some o := fun b o e => old2 b o (hH2 ▸ Heap.get?_push_of_some _ e)
  have hacc : h₁.get? s.heap.objs.size = some { cls := .type "list", dict := none, data := .seq ([] : List Value).toArray } := old2 _ _ (hH2 ▸ Heap.get?_push_size _ rfl)
  have hns₁ : h₁.Ns H2.objs.size (fun _ => none) := hh1 ▸ (Heap.Ns.new H2 (.type "dict")).keeps (pushCells_keeps _ _)
  have new : CellsOk h₁ (H2.objs.size + 1) (cellsFrom (H2.objs.size + 1) scope.names []) := by
    have ok := cellsFrom_ok scope.names (H2.push { cls := .type "dict", data := .dict #[] }) (H2.objs.size + 1) [] ⟨fun _ _ hm => (nomatch hm), List.Pairwise.nil⟩ (by rw [Heap.size_push]; exact Nat.le_refl _)
    rw [Heap.size_push, hh1] at ok
    exact ok
  have fo : ∀ b ∈ fp, b < s.heap.objs.size := fun b hb => by
    obtain ⟨o, e, _⟩ := T.obj _ _ st b hb
    exact Heap.lt_size e
  obtain ⟨W, ⟨m0, w0⟩, turn⟩ := h s.heap.objs.size (I.hok.fresh (Nat.le_refl _))
  have I4 : Inv (compCx X (x :: fv) scope H2.objs.size fp s H) pins (none :: cap ix σ) (upd H s.heap.objs.size (.lst [])) { s with heap := h₁ } :=
    inv_comp I F hk f2 fo rfl (by rw [hC]; exact Nat.lt_succ_self _) ⟨rfl, rfl⟩ hns₁ old hacc new
  have fx : ∀ {H' : Hp}, (∀ b ∈ fp, H' b = none) → ∀ b ∈ fp, FpOk (compCx X (x :: fv) scope H2.objs.size fp s H) pins H' b := fun hn b hb => by
    refine ⟨hn b hb, (I4.ok.exf b hb).1, I4.ok.exfs b hb, .inl hb, (I4.ok.exf b hb).2, (f2 b hb).2.2.2.2.2⟩
  have st4 : tn 0 h₁ := T.keep _ _ _ st fun b _ o e => old b o e
  have loop : codeAny (model X.prog X.w) X.A (.compLoop (.ListComp elt [⟨.Name x px, iter, ifs, 0⟩] scope pos) 0 (.ref it) (.ref s.heap.objs.size) (compEnvC scope (compCells X scope H2.objs.size) H2.objs.size X.env)) (R (.ref s.heap.objs.size) H2.objs.size)
      { s with heap := h₁ } := by
    refine codeAny_loop rfl (fun n s' => ∃ i H', Inv (compCx X (x :: fv) scope H2.objs.size fp s H) pins (none :: cap ix σ) H' s' ∧ tn i s'.heap ∧ (∀ b ∈ fp, H' b = none) ∧ W i n H') ?_ m0 ⟨0, _, I4, st4, fun b hb => by
      rw [upd_ne (Nat.ne_of_lt (fo b hb))]; exact (f2 b hb).1, w0⟩
    rintro n s5 ⟨i, H5, I5, st5, fr5, w5⟩
    show wpAny _ X.A ((compTurn (.ListComp elt [⟨.Name x px, iter, ifs, 0⟩] scope pos) 0 (.ref it) (.ref s.heap.objs.size) (compEnvC scope (compCells X scope H2.objs.size) H2.objs.size X.env)).onRaise _) _ _ s5
    refine wpAny_noted ?_
    rw [compTurn_list]
    rcases turn i n H5 w5 with ⟨stop, qn⟩ | ⟨go, step⟩
    · refine wpAny_bind (wpAny_standAt (wpAny_bind (thn (T.done (compCx X (x :: fv) scope H2.objs.size fp s H) rfl rfl rfl hc i pins s5 _ H5 _ I5 (fx fr5) st5 stop) fun r s6 ⟨hr, I6⟩ => ?_)))
      subst hr
      refine wpAny_pure ?_
      have J6 : Inv X pins σ H5 s6 := I.call' (ch := fp) I6.os I6.base I6.hok I6.bare fun b hb => ⟨(f2 b hb).2.2.2.1, (f2 b hb).2.1, (f2 b hb).2.2.2.2.1, (f2 b hb).2.2.2.2.2⟩
      obtain ⟨m, hn, _⟩ := I6.loc
      exact hR _ _ H5 s6 (by rw [hC]; exact Nat.le_succ _) ⟨m, hn⟩ I6.free J6 qn
    · refine wpAny_bind (wpAny_standAt (wpAny_bind (thn (T.item (compCx X (x :: fv) scope H2.objs.size fp s H) rfl rfl rfl hc i pins s5 _ H5 _ I5 (fx fr5) st5 go) fun r s6 ⟨u, hr, h6⟩ => ?_)))
      subst hr
      refine wpAny_bind (thn h6 fun _ s7 ⟨v, H7, I7, r7, y7, st7, fr7⟩ => ?_)
      have I7' := I7.pinned (fx fr7) (T.obj _ _ st7)
      have pg : PG (compCx X (x :: fv) scope H2.objs.size fp s H) (.Name x px) (gName 0) := by
        rcases hx with hx | hx
        · exact pg_name (i := 0) hN rfl (.inl (lookup_relabel_local hx)) (.inr (lookup_relabel_local hx))
        · exact pg_name (i := 0) hN rfl (.inr (relabel_cell hx)) (.inl (decide_eq_true hx))
      have back : ∀ {H9 : Hp} {σ9 : St} {s9 : Shared} {m : Nat}, Inv (compCx X (x :: fv) scope H2.objs.size fp s H) (pins ++ pinsAt fp s7.heap) (some v :: cap ix σ) H9 s9 → W (i + 1) m H9 →
          ∃ i H', Inv (compCx X (x :: fv) scope H2.objs.size fp s H) pins (none :: cap ix σ) H' s9 ∧ tn i s9.heap ∧ (∀ b ∈ fp, H' b = none) ∧ W i m H' := fun {H9 σ9 s9 m} I9 w9 => by
        refine ⟨i + 1, H9, I9.unpinned.weak rfl (fun j z e => ?_), T.keep _ _ _ st7 fun b hb o e => (I9.pin (b, o) (List.mem_append_right _ (List.mem_append_right _ (mem_pinsAt hb e)))).1, fun b hb => ?_, w9⟩
        · cases j with
          | zero => cases e
          | succ j => exact e
        · obtain ⟨o, e, d⟩ := T.obj _ _ st7 b hb
          exact (I9.pin (b, o) (List.mem_append_right _ (List.mem_append_right _ (mem_pinsAt hb e)))).2.1
      have no : ∀ (E' : Value → Shared → Prop) (e : Value) (s' : Shared), (fun (_ : Value) (_ : Shared) => False) e s' → E' e s' := fun _ _ _ z => z.elim
      refine wpAny_bind (wpAny_mono (pg _ s7 _ H7 v u (fun σ' H' => σ' = some v :: cap ix σ ∧ H' = H7) I7' r7 ⟨rfl, rfl⟩) (fun _ s8 h8 => ?_) (no _))
      obtain ⟨σ8, H8, I8, rfl, rfl⟩ := h8
      refine wpAny_bind (wpAny_mono (ht _ _ _ _ _ s8 _ H8 _ I8 (step v H8 y7)) (fun ok s9 h9 => ?_) (no _))
      obtain ⟨H9, I9, q9⟩ := h9
      cases ok with
      | false =>
        obtain ⟨m', hm, w9⟩ := q9
        exact wpAny_pure ⟨rfl, m', hm, back (σ9 := []) I9 w9⟩
      | true =>
        refine wpAny_bind (wpAny_bind (wpAny_mono (he _ _ _ _ _ s9 _ H9 _ I9 q9) (fun y s10 h10 => ?_) (no _)))
        obtain ⟨yv, H10, I10, r10, ys, hD, hz, m', hm, w10⟩ := h10
        have ap := mt_append (X := compCx X (x :: fv) scope H2.objs.size fp s H) _ s10 _ H10 (.ref s.heap.objs.size) [yv] (.ref s.heap.objs.size) [y] (fun _ H' => H' = upd H10 s.heap.objs.size (.lst (ys ++ [yv]))) I10 rfl (.cons r10 .nil) ⟨_, ys, yv, rfl, rfl, hD, hz, rfl⟩
        refine wpAny_bind (wpAny_mono ap (fun _ s11 h11 => ?_) (no _))
        obtain ⟨_, H11, I11, _, rfl⟩ := h11
        exact wpAny_pure (wpAny_pure ⟨rfl, m', hm, back (σ9 := []) I11 w10⟩)
  exact codeAny_compStart_list loop (T.self _ 0 _ _ _ st4 loop)

/-- [elt for x in iter if ..] -/
theorem pe_comp {elt iter : Expr} {x : Str} {px pos : Pos} {ifs : List Expr} {scope : Scope} {wi : TI} {tc : TT} {te : TE} (fv : List Str) (ix : List Nat) (hc : X.calm = true) (hi : PI X (.Name x px) iter wi)
    (ht : ∀ C fp s₀ H₀, PF (compCx X (x :: fv) scope C fp s₀ H₀) ifs tc) (he : ∀ C fp s₀ H₀, PE (compCx X (x :: fv) scope C fp s₀ H₀) elt te)
    (hN : (x :: fv).Nodup := by decide) (hx : scope.names.lookup x = some .local ∨ scope.names.lookup x = some .cell := by first | exact .inl rfl | exact .inr rfl) (hk : scope.kind = .function := by rfl) (hb : compOk X scope fv ix = true := by rfl)
    (hs : ∀ x, foldedSetIterable iter X.env x = pure x := by intro _; rfl) : PE X (.ListComp elt [⟨.Name x px, iter, ifs, 0⟩] scope pos) (tComp wi ix tc te) := by
  intro pins s σ H Q I h
  have F := compFacts hb
  rw [eval_ListComp]
  refine wpAny_comprehension_free (use := none) rfl hs (closureFor_clo fun y hy e => I.ok.has y.1 (F.fre y hy e)) hk (fun y hy e => e ▸ F.con y hy) (thn (hi pins s σ H _ I h) fun v s1 h1 => thn h1 fun itv s2 h2 => ?_)
  obtain ⟨it, fp, tn, J, H2, rfl, I2, T, st2, f2, h2⟩ := h2
  refine comp_loop (R := fun acc C => compPost (model X.prog X.w) X.A X.xe none (EP X pins σ Q) acc C) hc hN hx ht he hk F I2 T st2 f2 h2 fun D C H' s' hC hns hn I' q => ?_
  obtain ⟨m, hns⟩ := hns
  refine ⟨m, hns, fun h' hs' => ⟨.ref D, H', ?_, rfl, q⟩⟩
  have fC := I2.fpOk (H' := H') hC hn
  exact I'.turned (t' := s'.toks) (fun b o hb e => (hs'.2 b hb).trans e) hn fC.2.1 fC.2.2.2.1 fC.2.2.2.2.1 fC.2.2.2.2.2

/-- name = [elt for x in iter if ..], the name a plain local on the same row -/
def tSetC (i : Nat) (t : TE) : TS := fun D σ H => t σ H fun x H1 => D.nx (σ.set i (some x)) H1
theorem ps_setC {i : Nat} {y : Str} {elt iter : Expr} {x : Str} {px py pos spos : Pos} {ifs : List Expr} {scope : Scope} {wi : TI} {tc : TT} {te : TE} (hNX : X.N.Nodup) (hiy : X.N[i]? = some y) (hy : X.env.scope.names.lookup y = some .local) (fv : List Str) (ix : List Nat) (hc : X.calm = true)
    (hi : PI X (.Name x px) iter wi) (ht : ∀ C fp s₀ H₀, PF (compCx X (x :: fv) scope C fp s₀ H₀) ifs tc) (he : ∀ C fp s₀ H₀, PE (compCx X (x :: fv) scope C fp s₀ H₀) elt te)
    (hN : (x :: fv).Nodup := by decide) (hx : scope.names.lookup x = some .local ∨ scope.names.lookup x = some .cell := by first | exact .inl rfl | exact .inr rfl) (hk : scope.kind = .function := by rfl) (hb : compOk X scope fv ix = true := by rfl)
    (hs : ∀ x, foldedSetIterable iter X.env x = pure x := by intro _; rfl) (hsw : swapsWith (.ListComp elt [⟨.Name x px, iter, ifs, 0⟩] scope pos) (some (.Name y py)) spos.line X.env = pure true := by rfl) :
    PS X (.Assign [.Name y py] (.ListComp elt [⟨.Name x px, iter, ifs, 0⟩] scope pos) spos) (tSetC i (tComp wi ix tc te)) := by
  intro pins s σ H D0 I h
  have F := compFacts hb
  rw [exec_Assign_Name_used _ _ _ _ hsw]
  refine wpAny_bind (wpAny_standAt (wpAny_bind ?_))
  show wpAny _ X.A (do let _ ← comprehension (.ListComp elt [⟨.Name x px, iter, ifs, 0⟩] scope pos) scope X.env _ (newList []) false (eval iter X.env) (some (assign (.Name y py) X.env))) _ _ s
  refine wpAny_bind (wpAny_mono (wpAny_comprehension_free (use := some (assign (.Name y py) X.env)) (Q := fun _ s' => SP X pins D0 .next s') rfl hs (closureFor_clo fun y hy e => I.ok.has y.1 (F.fre y hy e)) hk (fun y hy e => e ▸ F.con y hy)
    (thn (hi pins s σ H _ I h) fun v s1 h1 => thn h1 fun itv s2 h2 => ?_)) (fun _ s' hq => wpAny_pure (wpAny_pure hq)) fun _ _ e => e)
  obtain ⟨it, fp, tn, J, H2, rfl, I2, T, st2, f2, h2⟩ := h2
  refine comp_loop (Q := fun v H' => D0.nx (σ.set i (some v)) H') (R := fun acc C => compPost (model X.prog X.w) X.A X.xe (some (assign (.Name y py) X.env)) (fun _ s' => SP X pins D0 .next s') acc C) hc hN hx ht he hk F I2 T st2 f2 h2 fun D C H' s' hC hns hn I' q => ?_
  obtain ⟨m, hns⟩ := hns
  have fC := I2.fpOk (H' := H') hC hn
  show wpAny _ X.A (assign (.Name y py) X.env (.ref D)) _ _ _
  -- the block's own names are kept through the store: they are pinned
  obtain ⟨o, es, ep, ho, rest⟩ := id hns
  have I'' : Inv X (pins ++ pinsAt [C] s'.heap) σ H' s' := I'.pinned (fun b hb => by
    have e : b = C := by simpa using hb
    subst e
    exact fC) (fun b hb => by
    have e : b = C := by simpa using hb
    subst e
    exact ⟨o, ho, fun v z => by rw [rest.1] at z; cases z⟩)
  refine wpAny_assign_Name (store_ok I'' hNX hiy (.inl hy) (v := .ref D) rfl (fun s6 I6 => ?_) (.inr hy))
  have hpin := (I6.pin (C, o) (List.mem_append_right _ (List.mem_append_right _ (mem_pinsAt (by simp) ho)))).1
  refine ⟨m, ⟨o, es, ep, hpin, rest⟩, fun h' hs' => ⟨_, H', ?_, q⟩⟩
  exact I6.unpinned.turned (t' := s6.toks) (fun b o hb e => (hs'.2 b hb).trans e) hn fC.2.1 fC.2.2.2.1 fC.2.2.2.2.1 fC.2.2.2.2.2
end

/-! ### the forms one uses -/
/-- the end of an expression, said once -/
def tCutE (t : TE) : TE := fun σ H Q => ∃ R : VK, t σ H R ∧ ∀ v H', R v H' → Q v H'
theorem pe_cutE {X : Cx} {e : Expr} {t : TE} (h : PE X e t) : PE X e (tCutE t) := by
  intro pins s σ H Q I hw
  obtain ⟨R, hw, k⟩ := hw
  exact thn (h pins s σ H _ I hw) fun u s' ⟨v, H', J, r, q⟩ => ⟨v, H', J, r, k _ _ q⟩
/-- over a range: P holds between the turns, with what the new list holds so far -/
theorem comp_range {lo : Int} {n : Nat} {te : TE} {c : St} {H : Hp} {Q : VK} {D : Addr} (Pv : Nat → List V → Hp → Prop) (hD : H D = some (.lst [])) (h0 : Pv 0 [] H) (hn : n ≤ 1000)
    (turn : ∀ i ys H2, i < n → ys.length = i → Pv i ys H2 → H2 D = some (.lst ys) → te (some (.int (lo + i)) :: c) H2 fun y H5 => H5 D = some (.lst ys) ∧ Pv (i + 1) (ys ++ [y]) (upd H5 D (.lst (ys ++ [y]))))
    (fin : ∀ ys H2, ys.length = n → Pv n ys H2 → H2 D = some (.lst ys) → Q (.ref D) H2) :
    ∃ W : Nat → Nat → Hp → Prop, (∃ m, W 0 m H) ∧ ∀ i m H2, W i m H2 →
      ((Itr lo n).stop i H2 ∧ Q (.ref D) H2) ∨ ((Itr lo n).go i H2 ∧ ∀ x H3, (Itr lo n).yld i H2 x H3 → tTrue (some x :: c) H3 fun b H4 => if b = true then tCutE te (some x :: c) H4 fun y H5 => ∃ ys, H5 D = some (.lst ys) ∧ ys.length < sizeLine ∧ ∃ m', m' < m ∧ W (i + 1) m' (upd H5 D (.lst (ys ++ [y])))
        else ∃ m', m' < m ∧ W (i + 1) m' H4) := by
  refine ⟨fun i m H => i + m = n ∧ ∃ ys : List V, ys.length = i ∧ Pv i ys H ∧ H D = some (.lst ys), ⟨n, by omega, [], rfl, h0, hD⟩, fun i m H2 ⟨hm, ys, hl, hp, hd⟩ => ?_⟩
  by_cases hi : i = n
  · subst hi
    exact .inl ⟨Nat.le_refl _, fin ys H2 hl hp hd⟩
  · refine .inr ⟨show i < n by omega, fun x H3 hy => ?_⟩
    obtain ⟨rfl, rfl⟩ := hy
    dsimp only [tTrue]
    rw [if_pos rfl]
    refine ⟨_, turn i ys H3 (by omega) hl hp hd, fun y H5 ⟨hd5, hp5⟩ => ?_⟩
    exact ⟨ys, hd5, small1000 (by omega), m - 1, by omega, by omega, ys ++ [y], by rw [List.length_append, hl]; rfl, hp5, upd_same⟩
/-- over a list that the turns leave as it is -/
theorem comp_list {K : PySem.W.Frag} {a : Addr} {xs : List V} {te : TE} {c : St} {H : Hp} {Q : VK} {D : Addr} (Pv : Nat → List V → Hp → Prop) (hD : H D = some (.lst [])) (h0 : Pv 0 [] H) (hn : xs.length ≤ 1000)
    (hl : ∀ i ys H, Pv i ys H → SqL K H a xs)
    (turn : ∀ i ys x H2, xs[i]? = some x → ys.length = i → Pv i ys H2 → H2 D = some (.lst ys) → te (some x :: c) H2 fun y H5 => H5 D = some (.lst ys) ∧ Pv (i + 1) (ys ++ [y]) (upd H5 D (.lst (ys ++ [y]))))
    (fin : ∀ ys H2, ys.length = xs.length → Pv xs.length ys H2 → H2 D = some (.lst ys) → Q (.ref D) H2) :
    ∃ W : Nat → Nat → Hp → Prop, (∃ m, W 0 m H) ∧ ∀ i m H2, W i m H2 →
      ((Itl K a).stop i H2 ∧ Q (.ref D) H2) ∨ ((Itl K a).go i H2 ∧ ∀ x H3, (Itl K a).yld i H2 x H3 → tTrue (some x :: c) H3 fun b H4 => if b = true then tCutE te (some x :: c) H4 fun y H5 => ∃ ys, H5 D = some (.lst ys) ∧ ys.length < sizeLine ∧ ∃ m', m' < m ∧ W (i + 1) m' (upd H5 D (.lst (ys ++ [y])))
        else ∃ m', m' < m ∧ W (i + 1) m' H4) := by
  refine ⟨fun i m H => i + m = xs.length ∧ ∃ ys : List V, ys.length = i ∧ Pv i ys H ∧ H D = some (.lst ys), ⟨xs.length, by omega, [], rfl, h0, hD⟩, fun i m H2 ⟨hm, ys, he, hp, hd⟩ => ?_⟩
  have q := hl i ys H2 hp
  by_cases hi : i = xs.length
  · subst hi
    exact .inl ⟨⟨xs, q, Nat.le_refl _⟩, fin ys H2 he hp hd⟩
  · have hlt : i < xs.length := by omega
    refine .inr ⟨⟨xs, xs[i], q, List.getElem?_eq_getElem hlt⟩, fun x H3 hy => ?_⟩
    obtain ⟨rfl, hx⟩ := hy
    dsimp only [tTrue]
    rw [if_pos rfl]
    refine ⟨_, turn i ys x H3 (hx xs q) he hp hd, fun y H5 ⟨hd5, hp5⟩ => ?_⟩
    exact ⟨ys, hd5, small1000 (by omega), m - 1, by omega, by omega, ys ++ [y], by rw [List.length_append, he]; rfl, hp5, upd_same⟩
end L2
namespace L2
open PySem PySem.Spec PyProof.Rows
/-! ### rules whose reading names the written part, said of K itself (inside a block) -/
section
variable {X : Cx} {K : PySem.W.Frag}
theorem ix_listK (h : X.K = K) : IxR X (rIxL K) := by subst h; exact ix_list
theorem ix_tupK (h : X.K = K) : IxR X (rIxT K) := by subst h; exact ix_tup
theorem call_len_seqK (h : X.K = K) : CallR X (.builtin "len") (fun xs H Q => ∃ p ys, xs = [.ref p] ∧ (SqL K H p ys ∨ SqT K H p ys) ∧ Q (.int ys.length) H) := by subst h; exact call_len_seq
theorem call_list_ofK (h : X.K = K) : CallR X (.type "list") (fun xs H Q => ∃ p ys, xs = [.ref p] ∧ (SqL K H p ys ∨ SqT K H p ys) ∧ ∀ l, H l = none → Q (.ref l) (upd H l (.lst ys))) := by subst h; exact call_list_of
theorem op_in_seqK (h : X.K = K) : OpR X (compareOp .In) (rIn K false) := by subst h; exact op_in_seq
theorem op_notIn_seqK (h : X.K = K) : OpR X (compareOp .NotIn) (rIn K true) := by subst h; exact op_notIn_seq
theorem mt_indexK (h : X.K = K) : MtR X "list.index" (rIndex K) := by subst h; exact mt_index
theorem sl_listK (h : X.K = K) : SlR X (rSlL K) := by subst h; exact sl_list
end
end L2

set_option Elab.async false
set_option linter.all false
set_option maxRecDepth 100000
set_option maxHeartbeats 1000000
namespace L2
open PySem PySem.Spec PyProof.Rows
/-! ### a comprehension over pairs: two names in the target -/
def CompG2 (K : PySem.W.Frag) (J : It) (tc : TT) (te : TE) (c : St) (H : Hp) (Q : VK) (D : Addr) : Prop := ∃ W : Nat → Nat → Hp → Prop, (∃ m, W 0 m H) ∧ ∀ i m H2, W i m H2 →
  (J.stop i H2 ∧ Q (.ref D) H2) ∨ (J.go i H2 ∧ ∀ x H3, J.yld i H2 x H3 → ∃ a v1 v2, x = .ref a ∧ SqT K H3 a [v1, v2] ∧ tc (some v1 :: some v2 :: c) H3 fun b H4 => if b = true then te (some v1 :: some v2 :: c) H4 fun y H5 => ∃ ys, H5 D = some (.lst ys) ∧ ys.length < sizeLine ∧ ∃ m', m' < m ∧ W (i + 1) m' (upd H5 D (.lst (ys ++ [y])))
    else ∃ m', m' < m ∧ W (i + 1) m' H4)
def tComp2 (K : PySem.W.Frag) (wi : TI) (ix : List Nat) (tc : TT) (te : TE) : TE := fun σ H Q => wi σ H fun J H1 => ∀ D, H1 D = none → CompG2 K J tc te (cap ix σ) (upd H1 D (.lst [])) Q D
section
variable {X : Cx} {scope : Scope} {fv : List Str} {ix : List Nat} {x x2 : Str}
/-- the block's first state -/
theorem inv_comp2 {pins : List (Addr × Obj)} {σ : St} {H : Hp} {s s4 : Shared} {fp : List Addr} {D C : Addr} {m : Str → Option Value} {n : Nat} (I : Inv X pins σ H s) (F : CompFacts X scope fv ix) (hk : scope.kind = .function)
    (f2 : ∀ b ∈ fp, FpOk X pins H b) (fo : ∀ b ∈ fp, b < s.heap.objs.size) (hD : D = s.heap.objs.size) (hC : s.heap.objs.size < C) (hs4 : s4.os = s.os ∧ s4.gens = s.gens) (hns : s4.heap.Ns C m)
    (old : ∀ b o, s.heap.get? b = some o → s4.heap.get? b = some o) (hacc : s4.heap.get? D = some { cls := .type "list", data := .seq ([] : List Value).toArray n })
    (new : CellsOk s4.heap (C + 1) (cellsFrom (C + 1) scope.names [])) :
    Inv (compCx X (x :: x2 :: fv) scope C fp s H) pins (none :: none :: cap ix σ) (upd H D (.lst [])) s4 := by
  have hfr : ∀ y ∈ scope.names, y.2 = .free → ∃ c, X.env.cells.lookup y.1 = some c := fun y hy e => I.ok.has y.1 (F.fre y hy e)
  have hlk0 : ∀ y c, (clo X.env scope.names []).lookup y = some c → X.env.cells.lookup y = some c := fun y c h => clo_lookup scope.names [] hfr (fun _ _ z => by cases z) h
  -- a cell of the block is new, or one of the frame's
  have hlk : ∀ y c, (compCells X scope C).lookup y = some c → ((y, c) ∈ cellsFrom (C + 1) scope.names [] ∧ s.heap.objs.size + 1 < c) ∨ (X.env.cells.lookup y = some c ∧ Nat.succ c ≤ s.heap.objs.size) := fun y c h => by
    rw [compCells, cellsFrom_app] at h
    rcases lookup_app h with h | ⟨_, h⟩
    · exact .inl ⟨PySem.mem_of_lookup h, Nat.lt_of_lt_of_le (Nat.succ_lt_succ hC) (new.empty _ _ (PySem.mem_of_lookup h)).2⟩
    · obtain ⟨v, q⟩ := I.cell y c (hlk0 y c h)
      exact .inr ⟨hlk0 y c h, q.lt⟩
  have hnD : H D = none := by rw [hD]; exact I.hok.fresh (Nat.le_refl _)
  refine ⟨⟨I.ok.mod, hk, I.ok.glob, I.ok.blt, Nat.le_of_lt hC, fun y z c h1 h2 => ?_, fun y hy => ?_, fun y c hy h => ?_, I.ok.hd, I.ok.frames, .inl rfl, fun b hb => ⟨?_, fun y c h => ?_⟩, I.bs, Nat.le_trans I.ok.bsz I.sz, fun b o e hb => ?_, fun b hb z => ?_, I.stack, I.stkFree⟩,
    hs4.1, by rw [hs4.2]; exact I.bare, Un.laid old (by rw [hD]; exact Nat.le_refl _) hnD, ⟨m, hns, fun i y v e1 e2 e3 => ?_⟩, fun y c h => ?_, ?_, fun y c h => ?_, fun p hp => ?_, ?_, ?_⟩
  · rcases hlk y c h1 with ⟨h1, l1⟩ | ⟨h1, l1⟩ <;> rcases hlk z c h2 with ⟨h2, l2⟩ | ⟨h2, l2⟩
    · exact name_of_addr new.apart h1 h2
    · omega
    · omega
    · exact I.ok.inj y z c h1 h2
  · have q : ∃ c, (compCells X scope C).lookup y = some c := by
      refine Option.isSome_iff_exists.mp (PySem.W.cellsFrom_some scope.names (C + 1) _ ?_)
      rcases relabel_kind (env := X.env) hy with h | h
      · exact .inr (Option.isSome_iff_exists.mpr (clo_has scope.names [] (.inl h)))
      · exact .inl (F.con _ h)
    exact q
  · have hy' : scope.names.lookup y = some .cell := of_decide_eq_true hy
    rcases hlk y c h with ⟨_, l⟩ | ⟨_, l⟩
    · show s.heap.objs.size ≤ c
      omega
    · exfalso
      have h : (compCells X scope C).lookup y = some c := h
      rw [compCells, cellsFrom_app] at h
      have isn : ((cellsFrom (C + 1) scope.names []).lookup y).isSome = true := PySem.W.cellsFrom_some scope.names (C + 1) [] (.inl hy')
      rcases lookup_app h with h | ⟨h, _⟩
      · have := Nat.lt_of_lt_of_le (Nat.succ_lt_succ hC) (new.empty _ _ (PySem.mem_of_lookup h)).2
        omega
      · rw [h] at isn; cases isn
  · exact Nat.ne_of_lt (Nat.lt_trans (fo b hb) hC)
  · rcases hlk y c h with ⟨_, l⟩ | ⟨h, _⟩
    · exact Nat.ne_of_gt (Nat.lt_trans (fo b hb) (Nat.lt_of_succ_lt l))
    · exact (f2 b hb).2.2.2.2.1 y c h
  · obtain ⟨_, _, f3, f4, _⟩ := f2 b hb
    rcases f4 with f4 | f4
    · exact I.ok.noex b o e f4
    · exact absurd (Nat.lt_of_lt_of_le (Nat.lt_of_lt_of_le (Heap.lt_size e) I.ok.bsz) f4) (Nat.lt_irrefl _)
  · obtain ⟨_, f1, f3, _⟩ := f2 b hb
    rcases List.mem_cons.mp (I.stkSub b z) with z | z
    · exact f1 z
    · exact f3 z
  · cases i with
    | zero => cases e2
    | succ i1 =>
     cases i1 with
     | zero => cases e2
     | succ j =>
      have e1 : fv[j]? = some y := e1
      have e2 : (cap ix σ)[j]? = some (some v) := e2
      obtain ⟨i, hi, hv⟩ := cap_get e2
      obtain ⟨hN, hkd, hfree⟩ := F.cap j y i e1 hi
      obtain ⟨m0, hn0, hl0⟩ := I.loc
      obtain ⟨u, r, l⟩ := hl0 i y v hN hv (.inr hkd)
      refine ⟨u, r, .inr ⟨relabel_free (scope := scope) (env := X.env) hfree, ?_⟩⟩
      rcases l with ⟨hloc, _⟩ | ⟨_, c, hc, hcell⟩
      · rcases hkd with z | z <;> (rw [hloc] at z; cases z)
      · obtain ⟨c', hc'⟩ := clo_has (env := X.env) (y := y) scope.names [] (.inl (PySem.mem_of_lookup hfree))
        have := hlk0 y c' hc'
        rw [hc] at this
        cases this
        refine ⟨c, ?_, hcell.keeps old⟩
        show (compCells X scope C).lookup y = some c
        rw [compCells, cellsFrom_app]
        refine app_lookup ?_ hc'
        cases q : (cellsFrom (C + 1) scope.names []).lookup y with
        | none => rfl
        | some d =>
          rcases cellsFrom_name _ _ _ (PySem.mem_of_lookup q) with z | z
          · have := F.con _ z
            rw [show scope.names.lookup y = some .free from hfree] at this
            cases this
          · cases z
  · rcases hlk y c h with ⟨h, _⟩ | ⟨h, _⟩
    · exact ⟨_, (new.empty _ _ h).1⟩
    · obtain ⟨v, q⟩ := I.cell y c h
      exact ⟨v, q.keeps old⟩
  · show upd H D (.lst []) C = none
    rw [upd_ne (by rw [hD]; exact Nat.ne_of_gt hC)]
    exact I.hok.fresh (Nat.le_of_lt hC)
  · show upd H D (.lst []) c = none
    rcases hlk y c h with ⟨_, l⟩ | ⟨h, l⟩
    · rw [upd_ne (by rw [hD]; exact Nat.ne_of_gt (Nat.lt_of_succ_lt l))]
      exact I.hok.fresh (Nat.le_of_lt (Nat.lt_of_succ_lt l))
    · rw [upd_ne (by rw [hD]; exact Nat.ne_of_lt l)]
      exact I.freeC y c h
  · obtain ⟨p1, p2, p3, p4, p5⟩ := I.pin p hp
    have hlt := Heap.lt_size p1
    refine ⟨old _ _ p1, ?_, Nat.ne_of_lt (Nat.lt_trans hlt hC), fun z => ?_, p5⟩
    · rw [upd_ne (by rw [hD]; exact Nat.ne_of_lt hlt)]; exact p2
    · rcases List.mem_cons.mp (I.stkSub p.1 z) with z | z
      · exact p3 z
      · exact p4 z
  · exact I.hok.laid old (by rw [hD]; exact Nat.le_refl _) ⟨Nat.zero_le _, [], n, .nil, hacc⟩
  · show (none :: none :: cap ix σ).length = (x :: x2 :: fv).length
    unfold cap
    simp [F.len]
end

section
variable {X : Cx}
/-- the loop of a comprehension, from its first state to where acc is handed on -/
theorem comp_loop2 {elt iter : Expr} {x x2 : Str} {px px2 pt pos : Pos} {tk : Nat} {ifs : List Expr} {scope : Scope} {tc : TT} {te : TE} {fv : List Str} {ix : List Nat} {pins : List (Addr × Obj)} {σ : St} {H : Hp} {s : Shared} {it : Addr} {fp : List Addr} {tn : Nat → Heap → Prop} {J : It}
    {R : Value → Addr → Result → Shared → Prop} {Q : VK} {E : Value → Shared → Prop} (hc : X.calm = true) (hN : (x :: x2 :: fv).Nodup) (hx : scope.names.lookup x = some .local ∨ scope.names.lookup x = some .cell) (hx2 : scope.names.lookup x2 = some .local ∨ scope.names.lookup x2 = some .cell)
    (ht : ∀ C fp s₀ H₀, PF (compCx X (x :: x2 :: fv) scope C fp s₀ H₀) ifs tc) (he : ∀ C fp s₀ H₀, PE (compCx X (x :: x2 :: fv) scope C fp s₀ H₀) elt te)
    (hk : scope.kind = .function) (F : CompFacts X scope fv ix) (I : Inv X pins σ H s) (T : Turn X.prog X.w X.K (.Tuple [.Name x px, .Name x2 px2] tk pt) J fp it tn) (st : tn 0 s.heap) (f2 : ∀ b ∈ fp, FpOk X pins H b)
    (h : ∀ D, H D = none → CompG2 X.K J tc te (cap ix σ) (upd H D (.lst [])) Q D)
    (hR : ∀ (D C : Addr) (H' : Hp) (s' : Shared), s.heap.objs.size ≤ C → (∃ m, s'.heap.Ns C m) → H' C = none → Inv X pins σ H' s' → Q (.ref D) H' → R (.ref D) C (.ok .next) s') :
    wpAny (model X.prog X.w) X.A (newList []) (fun acc s₃ => wpAny (model X.prog X.w) X.A (newFunctionEnv scope X.env.globals (clo X.env scope.names []) [] X.env.qual none .none (some X.env)) (fun cenv s₄ =>
      codeAny (model X.prog X.w) X.A (.compStart (.ListComp elt [⟨.Tuple [.Name x px, .Name x2 px2] tk pt, iter, ifs, 0⟩] scope pos) 0 (.ref it) acc { cenv with scope := relabel scope X.env }) (R acc cenv.locals) s₄) E s₃) E s := by
  refine wpAny_newObj_type (newEnv_comp ?_)
  dsimp only
  generalize hH2 : s.heap.push { cls := .type "list", dict := none, data := .seq ([] : List Value).toArray } = H2
  have hC : H2.objs.size = s.heap.objs.size + 1 := by rw [← hH2, Heap.size_push]
  generalize hh1 : pushCells (H2.push { cls := .type "dict", data := .dict #[] }) scope.names = h₁
  have old2 : ∀ b o, H2.get? b = some o → h₁.get? b = some o := fun b o e => hh1 ▸ pushCells_keeps _ _ b o (Heap.get?_push_of_some _ e)
  have old : ∀ b o, s.heap.get? b = some o → h₁.get? b = some o := fun b o e => old2 b o (hH2 ▸ Heap.get?_push_of_some _ e)
  have hacc : h₁.get? s.heap.objs.size = some { cls := .type "list", dict := none, data := .seq ([] : List Value).toArray } := old2 _ _ (hH2 ▸ Heap.get?_push_size _ rfl)
  have hns₁ : h₁.Ns H2.objs.size (fun _ => none) := hh1 ▸ (Heap.Ns.new H2 (.type "dict")).keeps (pushCells_keeps _ _)
  have new : CellsOk h₁ (H2.objs.size + 1) (cellsFrom (H2.objs.size + 1) scope.names []) := by
    have ok := cellsFrom_ok scope.names (H2.push { cls := .type "dict", data := .dict #[] }) (H2.objs.size + 1) [] ⟨fun _ _ hm => (nomatch hm), List.Pairwise.nil⟩ (by rw [Heap.size_push]; exact Nat.le_refl _)
    rw [Heap.size_push, hh1] at ok
    exact ok
  have fo : ∀ b ∈ fp, b < s.heap.objs.size := fun b hb => by
    obtain ⟨o, e, _⟩ := T.obj _ _ st b hb
    exact Heap.lt_size e
  obtain ⟨W, ⟨m0, w0⟩, turn⟩ := h s.heap.objs.size (I.hok.fresh (Nat.le_refl _))
  have I4 : Inv (compCx X (x :: x2 :: fv) scope H2.objs.size fp s H) pins (none :: none :: cap ix σ) (upd H s.heap.objs.size (.lst [])) { s with heap := h₁ } :=
    inv_comp2 I F hk f2 fo rfl (by rw [hC]; exact Nat.lt_succ_self _) ⟨rfl, rfl⟩ hns₁ old hacc new
  have fx : ∀ {H' : Hp}, (∀ b ∈ fp, H' b = none) → ∀ b ∈ fp, FpOk (compCx X (x :: x2 :: fv) scope H2.objs.size fp s H) pins H' b := fun hn b hb => by
    refine ⟨hn b hb, (I4.ok.exf b hb).1, I4.ok.exfs b hb, .inl hb, (I4.ok.exf b hb).2, (f2 b hb).2.2.2.2.2⟩
  have st4 : tn 0 h₁ := T.keep _ _ _ st fun b _ o e => old b o e
  have loop : codeAny (model X.prog X.w) X.A (.compLoop (.ListComp elt [⟨.Tuple [.Name x px, .Name x2 px2] tk pt, iter, ifs, 0⟩] scope pos) 0 (.ref it) (.ref s.heap.objs.size) (compEnvC scope (compCells X scope H2.objs.size) H2.objs.size X.env)) (R (.ref s.heap.objs.size) H2.objs.size)
      { s with heap := h₁ } := by
    refine codeAny_loop rfl (fun n s' => ∃ i H', Inv (compCx X (x :: x2 :: fv) scope H2.objs.size fp s H) pins (none :: none :: cap ix σ) H' s' ∧ tn i s'.heap ∧ (∀ b ∈ fp, H' b = none) ∧ W i n H') ?_ m0 ⟨0, _, I4, st4, fun b hb => by
      rw [upd_ne (Nat.ne_of_lt (fo b hb))]; exact (f2 b hb).1, w0⟩
    rintro n s5 ⟨i, H5, I5, st5, fr5, w5⟩
    show wpAny _ X.A ((compTurn (.ListComp elt [⟨.Tuple [.Name x px, .Name x2 px2] tk pt, iter, ifs, 0⟩] scope pos) 0 (.ref it) (.ref s.heap.objs.size) (compEnvC scope (compCells X scope H2.objs.size) H2.objs.size X.env)).onRaise _) _ _ s5
    refine wpAny_noted ?_
    rw [compTurn_list]
    rcases turn i n H5 w5 with ⟨stop, qn⟩ | ⟨go, step⟩
    · refine wpAny_bind (wpAny_standAt (wpAny_bind (thn (T.done (compCx X (x :: x2 :: fv) scope H2.objs.size fp s H) rfl rfl rfl hc i pins s5 _ H5 _ I5 (fx fr5) st5 stop) fun r s6 ⟨hr, I6⟩ => ?_)))
      subst hr
      refine wpAny_pure ?_
      have J6 : Inv X pins σ H5 s6 := I.call' (ch := fp) I6.os I6.base I6.hok I6.bare fun b hb => ⟨(f2 b hb).2.2.2.1, (f2 b hb).2.1, (f2 b hb).2.2.2.2.1, (f2 b hb).2.2.2.2.2⟩
      obtain ⟨m, hn, _⟩ := I6.loc
      exact hR _ _ H5 s6 (by rw [hC]; exact Nat.le_succ _) ⟨m, hn⟩ I6.free J6 qn
    · refine wpAny_bind (wpAny_standAt (wpAny_bind (thn (T.item (compCx X (x :: x2 :: fv) scope H2.objs.size fp s H) rfl rfl rfl hc i pins s5 _ H5 _ I5 (fx fr5) st5 go) fun r s6 ⟨u, hr, h6⟩ => ?_)))
      subst hr
      refine wpAny_bind (thn h6 fun _ s7 ⟨v, H7, I7, r7, y7, st7, fr7⟩ => ?_)
      have I7' := I7.pinned (fx fr7) (T.obj _ _ st7)
      have pn : ∀ {i : Nat} {y : Str} {py : Pos}, (x :: x2 :: fv)[i]? = some y → (scope.names.lookup y = some .local ∨ scope.names.lookup y = some .cell) → PG (compCx X (x :: x2 :: fv) scope H2.objs.size fp s H) (.Name y py) (gName i) := fun {i y py} hi hy => by
        rcases hy with hy | hy
        · exact pg_name (i := i) hN hi (.inl (lookup_relabel_local hy)) (.inr (lookup_relabel_local hy))
        · exact pg_name (i := i) hN hi (.inr (relabel_cell hy)) (.inl (decide_eq_true hy))
      have pg : PG (compCx X (x :: x2 :: fv) scope H2.objs.size fp s H) (.Tuple [.Name x px, .Name x2 px2] tk pt) (gTup X.K 2 (gCons (gName 0) (gCons (gName 1) gNil))) :=
        pg_tup (X := compCx X (x :: x2 :: fv) scope H2.objs.size fp s H) hc (pgs_cons (pn rfl hx) (pgs_cons (pn rfl hx2) pgs_nil))
      obtain ⟨ta, w1, w2, rfl, hT, step'⟩ := step v H7 y7
      have back : ∀ {H9 : Hp} {σ9 : St} {s9 : Shared} {m : Nat}, Inv (compCx X (x :: x2 :: fv) scope H2.objs.size fp s H) (pins ++ pinsAt fp s7.heap) (some w1 :: some w2 :: cap ix σ) H9 s9 → W (i + 1) m H9 →
          ∃ i H', Inv (compCx X (x :: x2 :: fv) scope H2.objs.size fp s H) pins (none :: none :: cap ix σ) H' s9 ∧ tn i s9.heap ∧ (∀ b ∈ fp, H' b = none) ∧ W i m H' := fun {H9 σ9 s9 m} I9 w9 => by
        refine ⟨i + 1, H9, I9.unpinned.weak rfl (fun j z e => ?_), T.keep _ _ _ st7 fun b hb o e => (I9.pin (b, o) (List.mem_append_right _ (List.mem_append_right _ (mem_pinsAt hb e)))).1, fun b hb => ?_, w9⟩
        · cases j with
          | zero => cases e
          | succ j =>
            cases j with
            | zero => cases e
            | succ j => exact e
        · obtain ⟨o, e, d⟩ := T.obj _ _ st7 b hb
          exact (I9.pin (b, o) (List.mem_append_right _ (List.mem_append_right _ (mem_pinsAt hb e)))).2.1
      have no : ∀ (E' : Value → Shared → Prop) (e : Value) (s' : Shared), (fun (_ : Value) (_ : Shared) => False) e s' → E' e s' := fun _ _ _ z => z.elim
      refine wpAny_bind (wpAny_mono (pg _ s7 _ H7 (.ref ta) u (fun σ' H' => σ' = some w1 :: some w2 :: cap ix σ ∧ H' = H7) I7' r7 ⟨ta, [w1, w2], rfl, hT, rfl, w1, [w2], rfl, w2, [], rfl, rfl, rfl, rfl⟩) (fun _ s8 h8 => ?_) (no _))
      obtain ⟨σ8, H8, I8, rfl, rfl⟩ := h8
      refine wpAny_bind (wpAny_mono (ht _ _ _ _ _ s8 _ H8 _ I8 step') (fun ok s9 h9 => ?_) (no _))
      obtain ⟨H9, I9, q9⟩ := h9
      cases ok with
      | false =>
        obtain ⟨m', hm, w9⟩ := q9
        exact wpAny_pure ⟨rfl, m', hm, back (σ9 := []) I9 w9⟩
      | true =>
        refine wpAny_bind (wpAny_bind (wpAny_mono (he _ _ _ _ _ s9 _ H9 _ I9 q9) (fun y s10 h10 => ?_) (no _)))
        obtain ⟨yv, H10, I10, r10, ys, hD, hz, m', hm, w10⟩ := h10
        have ap := mt_append (X := compCx X (x :: x2 :: fv) scope H2.objs.size fp s H) _ s10 _ H10 (.ref s.heap.objs.size) [yv] (.ref s.heap.objs.size) [y] (fun _ H' => H' = upd H10 s.heap.objs.size (.lst (ys ++ [yv]))) I10 rfl (.cons r10 .nil) ⟨_, ys, yv, rfl, rfl, hD, hz, rfl⟩
        refine wpAny_bind (wpAny_mono ap (fun _ s11 h11 => ?_) (no _))
        obtain ⟨_, H11, I11, _, rfl⟩ := h11
        exact wpAny_pure (wpAny_pure ⟨rfl, m', hm, back (σ9 := []) I11 w10⟩)
  exact codeAny_compStart_list loop (T.self _ 0 _ _ _ st4 loop)

/-- [elt for x in iter if ..] -/
theorem pe_comp2 {elt iter : Expr} {x x2 : Str} {px px2 pt pos : Pos} {tk : Nat} {ifs : List Expr} {scope : Scope} {wi : TI} {tc : TT} {te : TE} (fv : List Str) (ix : List Nat) (hc : X.calm = true) (hi : PI X (.Tuple [.Name x px, .Name x2 px2] tk pt) iter wi)
    (ht : ∀ C fp s₀ H₀, PF (compCx X (x :: x2 :: fv) scope C fp s₀ H₀) ifs tc) (he : ∀ C fp s₀ H₀, PE (compCx X (x :: x2 :: fv) scope C fp s₀ H₀) elt te)
    (hN : (x :: x2 :: fv).Nodup := by decide) (hx : scope.names.lookup x = some .local ∨ scope.names.lookup x = some .cell := by first | exact .inl rfl | exact .inr rfl) (hx2 : scope.names.lookup x2 = some .local ∨ scope.names.lookup x2 = some .cell := by first | exact .inl rfl | exact .inr rfl) (hk : scope.kind = .function := by rfl) (hb : compOk X scope fv ix = true := by rfl)
    (hs : ∀ x, foldedSetIterable iter X.env x = pure x := by intro _; rfl) : PE X (.ListComp elt [⟨.Tuple [.Name x px, .Name x2 px2] tk pt, iter, ifs, 0⟩] scope pos) (tComp2 X.K wi ix tc te) := by
  intro pins s σ H Q I h
  have F := compFacts hb
  rw [eval_ListComp]
  refine wpAny_comprehension_free (use := none) rfl hs (closureFor_clo fun y hy e => I.ok.has y.1 (F.fre y hy e)) hk (fun y hy e => e ▸ F.con y hy) (thn (hi pins s σ H _ I h) fun v s1 h1 => thn h1 fun itv s2 h2 => ?_)
  obtain ⟨it, fp, tn, J, H2, rfl, I2, T, st2, f2, h2⟩ := h2
  refine comp_loop2 (R := fun acc C => compPost (model X.prog X.w) X.A X.xe none (EP X pins σ Q) acc C) hc hN hx hx2 ht he hk F I2 T st2 f2 h2 fun D C H' s' hC hns hn I' q => ?_
  obtain ⟨m, hns⟩ := hns
  refine ⟨m, hns, fun h' hs' => ⟨.ref D, H', ?_, rfl, q⟩⟩
  have fC := I2.fpOk (H' := H') hC hn
  exact I'.turned (t' := s'.toks) (fun b o hb e => (hs'.2 b hb).trans e) hn fC.2.1 fC.2.2.2.1 fC.2.2.2.2.1 fC.2.2.2.2.2

end
end L2

set_option Elab.async false
set_option linter.all false
set_option maxRecDepth 100000
set_option maxHeartbeats 1000000
namespace L2
open PySem PySem.Spec PyProof.Rows

/-! ### lists of ints under a list -/
structure RowsN (H : Hp) (a : Addr) (as : List Addr) (ls : List (List Int)) : Prop where
  top : H a = some (.lst (as.map V.ref))
  len : as.length = ls.length
  row : ∀ (i : Nat) b l, as[i]? = some b → ls[i]? = some l → H b = some (.lst (iv l))
def RowsAt (H : Hp) (a : Addr) (ls : List (List Int)) : Prop := ∃ as, RowsN H a as ls
/-- the row of number i -/
def rw (ls : List (List Int)) (i : Int) : List Int := ls.getD i.toNat []
theorem RowsN.same {H H' : Hp} {a : Addr} {as : List Addr} {ls : List (List Int)} (s : Same H H') (h : RowsN H a as ls) : RowsN H' a as ls :=
  ⟨s _ _ h.top, h.len, fun i b l e1 e2 => s _ _ (h.row i b l e1 e2)⟩
theorem RowsAt.same {H H' : Hp} {a : Addr} {ls : List (List Int)} (s : Same H H') (h : RowsAt H a ls) : RowsAt H' a ls := by
  obtain ⟨as, h⟩ := h
  exact ⟨as, h.same s⟩
theorem RowsN.at {H : Hp} {a : Addr} {as : List Addr} {ls : List (List Int)} (h : RowsN H a as ls) {i : Int} (h0 : 0 ≤ i) (h1 : i < (ls.length : Int)) :
    ∃ b, as[i.toNat]? = some b ∧ atI (as.map V.ref) i = some (.ref b) ∧ H b = some (.lst (iv (rw ls i))) := by
  have hk : i.toNat < ls.length := by omega
  have hk' : i.toNat < as.length := by rw [h.len]; exact hk
  have ek : i = ((i.toNat : Nat) : Int) := by omega
  refine ⟨as[i.toNat], List.getElem?_eq_getElem hk', ?_, ?_⟩
  · have q : atI (as.map V.ref) ((i.toNat : Nat) : Int) = some (.ref as[i.toNat]) := atI_nat (by rw [List.getElem?_map, List.getElem?_eq_getElem hk']; rfl)
    rw [← ek] at q
    exact q
  · have e : rw ls i = ls[i.toNat] := by unfold rw; rw [List.getD_eq_getElem?_getD, List.getElem?_eq_getElem hk]; rfl
    rw [e]
    exact h.row i.toNat _ _ (List.getElem?_eq_getElem hk') (List.getElem?_eq_getElem hk)
theorem RowsAt.at {H : Hp} {a : Addr} {ls : List (List Int)} (h : RowsAt H a ls) {i : Int} (h0 : 0 ≤ i) (h1 : i < (ls.length : Int)) :
    ∃ xs b, H a = some (.lst xs) ∧ atI xs i = some (.ref b) ∧ H b = some (.lst (iv (rw ls i))) := by
  obtain ⟨as, h⟩ := h
  obtain ⟨b, _, q1, q2⟩ := h.at h0 h1
  exact ⟨_, b, h.top, q1, q2⟩
theorem RowsAt.top {H : Hp} {a : Addr} {ls : List (List Int)} (h : RowsAt H a ls) : ∃ xs, H a = some (.lst xs) ∧ xs.length = ls.length := by
  obtain ⟨as, h⟩ := h
  exact ⟨_, h.top, by rw [List.length_map, h.len]⟩
/-- a row is written anew -/
theorem RowsN.set {H : Hp} {a : Addr} {as : List Addr} {ls : List (List Int)} (h : RowsN H a as ls) (nd : as.Nodup) (ha : a ∉ as) {i : Nat} {b : Addr} (e : as[i]? = some b) (l : List Int) :
    RowsN (upd H b (.lst (iv l))) a as (ls.set i l) := by
  have hb : b ∈ as := List.mem_of_getElem? e
  refine ⟨?_, by rw [List.length_set]; exact h.len, fun j c m e1 e2 => ?_⟩
  · rw [upd_ne (fun (z : a = b) => ha (z ▸ hb))]; exact h.top
  · by_cases hj : j = i
    · subst hj
      rw [e] at e1
      cases e1
      have hlt : j < ls.length := by rw [← h.len]; exact (List.getElem?_eq_some_iff.mp e).1
      rw [List.getElem?_set_self hlt] at e2
      cases e2
      exact upd_same
    · rw [List.getElem?_set_ne (fun z => hj z.symm)] at e2
      have hne : c ≠ b := fun z => by
        subst z
        exact hj (nodup_get nd e1 e)
      rw [upd_ne hne]
      exact h.row j c m e1 e2
where
  nodup_get {as : List Addr} (nd : as.Nodup) {i j : Nat} {b : Addr} (h1 : as[i]? = some b) (h2 : as[j]? = some b) : i = j := by
    obtain ⟨l1, e1⟩ := List.getElem?_eq_some_iff.mp h1
    obtain ⟨l2, e2⟩ := List.getElem?_eq_some_iff.mp h2
    exact (List.getElem_inj nd).mp (e1.trans e2.symm)
theorem RowsN.other {H : Hp} {a : Addr} {as : List Addr} {ls : List (List Int)} (h : RowsN H a as ls) {b : Addr} (hb : b ∉ as) (ha : b ≠ a) (o : HO) : RowsN (upd H b o) a as ls :=
  ⟨by rw [upd_ne (Ne.symm ha)]; exact h.top, h.len, fun i c l e1 e2 => by rw [upd_ne (fun (z : c = b) => hb (z ▸ List.mem_of_getElem? e1))]; exact h.row i c l e1 e2⟩
theorem RowsN.nil {H : Hp} {a : Addr} (h : H a = some (.lst [])) : RowsN H a [] [] := ⟨h, rfl, fun i b l e => by cases e⟩

/-! ### wishes that are told rightly -/
structure Wl (n : Nat) (l : List Int) : Prop where
  nd : l.Nodup
  rg : ∀ x ∈ l, 0 ≤ x ∧ x < (n : Int)
  sh : l.length ≤ 100
def WOk (ls : List (List Int)) (n : Nat) : Prop := ∀ l ∈ ls, Wl n l
theorem Wl.nil (n : Nat) : Wl n [] := ⟨List.nodup_nil, fun _ h => (by cases h), Nat.zero_le _⟩
theorem WOk.rw {ls : List (List Int)} {n : Nat} (h : WOk ls n) (i : Int) : Wl n (rw ls i) := by
  unfold L2.rw
  rw [List.getD_eq_getElem?_getD]
  cases e : ls[i.toNat]? with
  | none => exact Wl.nil n
  | some l => exact h l (List.mem_of_getElem? e)
theorem WOk.set {ls : List (List Int)} {n : Nat} (h : WOk ls n) (i : Nat) {l : List Int} (hl : Wl n l) : WOk (ls.set i l) n := fun m hm => by
  rcases List.mem_or_eq_of_mem_set hm with q | q
  · exact h m q
  · exact q ▸ hl
theorem insV_ints (l : List Int) (k : Nat) (x : Int) : insV (iv l) k (.int x) = iv (l.take k ++ x :: l.drop k) := by
  unfold insV
  rw [iv, iv, List.map_append, List.map_cons, List.map_take, List.map_drop]
theorem ins_perm (l : List Int) (k : Nat) (x : Int) : (l.take k ++ x :: l.drop k).Perm (x :: l) := by
  have := List.perm_middle (a := x) (l₁ := l.take k) (l₂ := l.drop k)
  rwa [List.take_append_drop] at this
theorem Wl.ins {n : Nat} {l : List Int} (h : Wl n l) (k : Nat) {x : Int} (hx : x ∉ l) (h0 : 0 ≤ x) (h1 : x < (n : Int)) (hs : l.length < 100) : Wl n (l.take k ++ x :: l.drop k) := by
  have p := ins_perm l k x
  refine ⟨p.symm.nodup (List.nodup_cons.mpr ⟨hx, h.nd⟩), fun y hy => ?_, by rw [p.length_eq, List.length_cons]; omega⟩
  rcases List.mem_cons.mp (p.mem_iff.mp hy) with q | q
  · exact q ▸ ⟨h0, h1⟩
  · exact h.rg y q
theorem Wl.dropLast {n : Nat} {l : List Int} (h : Wl n l) : Wl n l.dropLast :=
  ⟨h.nd.sublist (List.dropLast_sublist l), fun x hx => h.rg x ((List.dropLast_sublist l).subset hx), by rw [List.length_dropLast]; have := h.sh; omega⟩

/-! ### values, None among them -/
abbrev ov (os : List (Option Int)) : List V := os.map oV
theorem atI_ov {os : List (Option Int)} {k : Int} (h0 : 0 ≤ k) (h : k < (os.length : Int)) : atI (ov os) k = some (oV (os.getD k.toNat none)) := by
  have hk : k.toNat < os.length := by omega
  have ek : k = ((k.toNat : Nat) : Int) := by omega
  have q : atI (ov os) ((k.toNat : Nat) : Int) = some (oV (os.getD k.toNat none)) := atI_nat (by
    rw [ov, List.getElem?_map, List.getElem?_eq_getElem hk, List.getD_eq_getElem?_getD, List.getElem?_eq_getElem hk]
    rfl)
  rw [← ek] at q
  exact q
theorem ixN_nat {n : Nat} {k : Int} (h0 : 0 ≤ k) (h : k < (n : Int)) : ixN n k = some k.toNat := by
  unfold ixN
  rw [if_pos h0, if_pos h]
theorem ov_set (os : List (Option Int)) (k : Nat) (o : Option Int) : (ov os).set k (oV o) = ov (os.set k o) := by rw [ov, ov, List.map_set]
theorem rep_flat {α : Type} (n : Nat) (v : α) : (List.replicate n [v]).flatten = List.replicate n v := by
  induction n with
  | zero => rfl
  | succ n ih => rw [List.replicate_succ, List.replicate_succ, List.flatten_cons, ih]; rfl
theorem rep_ov (n : Nat) : (List.replicate n [V.non]).flatten = ov (List.replicate n none) := by rw [rep_flat, ov, List.map_replicate]; rfl

/-! ### pairs under a list -/
structure PrsN (H : Hp) (a : Addr) (ts : List Addr) (ps : List (Int × Int)) : Prop where
  top : H a = some (.lst (ts.map V.ref))
  len : ts.length = ps.length
  row : ∀ (i : Nat) t p, ts[i]? = some t → ps[i]? = some p → H t = some (.tup [.int p.1, .int p.2])
def PrsAt (H : Hp) (a : Addr) (ps : List (Int × Int)) : Prop := ∃ ts, PrsN H a ts ps
theorem PrsN.same {H H' : Hp} {a : Addr} {as : List Addr} {ls : List (Int × Int)} (s : Same H H') (h : PrsN H a as ls) : PrsN H' a as ls :=
  ⟨s _ _ h.top, h.len, fun i b l e1 e2 => s _ _ (h.row i b l e1 e2)⟩
theorem PrsAt.same {H H' : Hp} {a : Addr} {ls : List (Int × Int)} (s : Same H H') (h : PrsAt H a ls) : PrsAt H' a ls := by
  obtain ⟨as, h⟩ := h
  exact ⟨as, h.same s⟩
theorem PrsN.snoc {H : Hp} {a : Addr} {ts : List Addr} {ps : List (Int × Int)} (h : PrsN H a ts ps) {t : Addr} {p : Int × Int} (ht : H t = some (.tup [.int p.1, .int p.2])) : PrsN (upd H a (.lst (ts.map V.ref ++ [.ref t]))) a (ts ++ [t]) (ps ++ [p]) := by
  have hne : ∀ b : Addr, ∀ xs, H b = some (.tup xs) → b ≠ a := fun b xs e z => by subst z; rw [h.top] at e; cases e
  refine ⟨by rw [upd_same, List.map_append]; rfl, by rw [List.length_append, List.length_append, h.len]; rfl, fun i b q e1 e2 => ?_⟩
  by_cases hi : i < ts.length
  · rw [List.getElem?_append_left hi] at e1
    rw [List.getElem?_append_left (by rw [← h.len]; exact hi)] at e2
    have := h.row i b q e1 e2
    rw [upd_ne (hne _ _ this)]
    exact this
  · have hl := (List.getElem?_eq_some_iff.mp e1).1
    rw [List.length_append, List.length_singleton] at hl
    have : i = ts.length := by omega
    subst this
    rw [List.getElem?_append_right (Nat.le_refl _), Nat.sub_self] at e1
    rw [h.len, List.getElem?_append_right (Nat.le_refl _), Nat.sub_self] at e2
    cases e1
    cases e2
    rw [upd_ne (hne _ _ ht)]
    exact ht
theorem PrsN.nil {H : Hp} {a : Addr} (h : H a = some (.lst [])) : PrsN H a [] [] := ⟨h, rfl, fun i b l e => by cases e⟩
end L2

set_option Elab.async false
set_option linter.all false
set_option maxRecDepth 100000
set_option maxHeartbeats 1000000
namespace L2
open PySem PySem.Spec PyProof.Rows
theorem nodup_snoc {α : Type} {l : List α} {x : α} (h : l.Nodup) (hx : x ∉ l) : (l ++ [x]).Nodup := by
  have p : (l ++ [x]).Perm (x :: l) := List.perm_append_comm (l₁ := l) (l₂ := [x])
  exact p.symm.nodup (List.nodup_cons.mpr ⟨hx, h⟩)
theorem Same.upd {H H' : Hp} (s : Same H H') {a : Addr} (h : H a = none) (o : HO) : Same H (upd H' a o) := fun b u e => by
  rw [upd_ne (ne_of_none e h)]; exact s b u e
theorem free_of {H H' : Hp} (s : Same H H') {a : Addr} (h : H' a = none) : H a = none := s.free h
/-- [[] for _ in range(n)] -/
theorem comp_nils {lo : Int} {n : Nat} {c : St} {H : Hp} {Q : VK} {D : Addr} (hD : H D = none) (hn : n ≤ 1000)
    (fin : ∀ as H', as.length = n → as.Nodup → D ∉ as → (∀ x ∈ as, H x = none) → Same H H' → RowsN H' D as (List.replicate n []) → Q (.ref D) H') :
    CompG (Itr lo n) tTrue (tCutE (tLst tNil)) c (L2.upd H D (.lst [])) Q D := by
  refine comp_range (fun i ys H' => ∃ as : List Addr, ys = as.map V.ref ∧ as.Nodup ∧ D ∉ as ∧ (∀ x ∈ as, H x = none ∧ H' x = some (.lst [])) ∧ Same H H') upd_same ⟨[], rfl, List.nodup_nil, by simp, fun x hx => (by cases hx), same_new hD _⟩ hn ?_ ?_
  · rintro i ys H2 hi hl ⟨as, rfl, nd, hDa, hx, s⟩ hd
    refine ⟨(by show 0 ≤ sizeLine; decide), fun r hr => ?_⟩
    have hrD : D ≠ r := ne_of_none hd hr
    have hra : r ∉ as := fun z => by
      have := (hx r z).2
      rw [hr] at this
      cases this
    refine ⟨by rw [upd_ne hrD]; exact hd, as ++ [r], by rw [List.map_append]; rfl, nodup_snoc nd hra, fun z => ?_, fun x hxx => ?_, (s.upd (s.free hr) _).upd hD _⟩
    · rcases List.mem_append.mp z with z | z
      · exact hDa z
      · exact hrD (List.mem_singleton.mp z)
    · rcases List.mem_append.mp hxx with z | z
      · have hxD : x ≠ D := fun e => hDa (e ▸ z)
        have hxr : x ≠ r := fun e => hra (e ▸ z)
        exact ⟨(hx x z).1, by rw [upd_ne hxD, upd_ne hxr]; exact (hx x z).2⟩
      · have e := List.mem_singleton.mp z
        subst e
        exact ⟨s.free hr, by rw [upd_ne (Ne.symm hrD)]; exact upd_same⟩
  · rintro ys H2 hl ⟨as, rfl, nd, hDa, hx, s⟩ hd
    rw [List.length_map] at hl
    refine fin as H2 hl nd hDa (fun x h => (hx x h).1) s ⟨hd, by rw [List.length_replicate]; exact hl, fun i b l e1 e2 => ?_⟩
    rw [List.getElem?_replicate] at e2
    split at e2
    · cases e2
      exact (hx b (List.mem_of_getElem? e1)).2
    · cases e2
end L2
namespace L2
open PySem PySem.Spec PyProof.Rows
/-! ### would rather -/
def wantsB (l : List Int) (x : Int) : Option Int → Bool
  | none => decide (x ∈ l)
  | some y => decide (x ∈ l) && decide (l.idxOf x < l.idxOf y)
theorem wantsB_none (l : List Int) (x : Int) : wantsB l x none = decide (x ∈ l) := rfl
theorem wantsB_some (l : List Int) (x y : Int) : wantsB l x (some y) = (decide (x ∈ l) && decide (l.idxOf x < l.idxOf y)) := rfl
theorem wantsB_not {l : List Int} {x : Int} (h : ¬ x ∈ l) (o : Option Int) : wantsB l x o = false := by
  cases o with
  | none => exact decide_eq_false h
  | some y => rw [wantsB_some, decide_eq_false h, Bool.false_and]
/-! ### who has whom -/
def mkey (sd : Int) (p : Int × Int) : Int := if sd = 0 then p.1 else p.2
def mval (sd : Int) (p : Int × Int) : Int := if sd = 0 then p.2 else p.1
def mateF (sd : Int) (n : Nat) (ps : List (Int × Int)) : List (Option Int) := ps.foldl (fun row p => row.set (mkey sd p).toNat (some (mval sd p))) (List.replicate n none)
theorem mateF_snoc {sd : Int} {n i : Nat} {ps : List (Int × Int)} (h : i < ps.length) : (mateF sd n (ps.take i)).set (mkey sd ps[i]).toNat (some (mval sd ps[i])) = mateF sd n (ps.take (i + 1)) := by
  rw [List.take_succ_eq_append_getElem h]
  unfold mateF
  rw [List.foldl_append]
  rfl
theorem foldl_set_length (sd : Int) : ∀ (ps : List (Int × Int)) (row : List (Option Int)), (ps.foldl (fun row p => row.set (mkey sd p).toNat (some (mval sd p))) row).length = row.length
  | [], _ => rfl
  | p :: ps, row => by rw [List.foldl_cons, foldl_set_length sd ps, List.length_set]
theorem mateF_length (sd : Int) (n : Nat) (ps : List (Int × Int)) : (mateF sd n ps).length = n := by
  unfold mateF
  rw [foldl_set_length, List.length_replicate]
end L2

set_option Elab.async false
set_option linter.all false
set_option maxRecDepth 100000
set_option maxHeartbeats 1000000
namespace L2
open PySem PySem.Spec PyProof.Rows
/-- [row for k in range(n)], each row a new list of ints -/
theorem comp_rows {lo : Int} {n : Nat} {te : TE} {c : St} {H : Hp} {Q : VK} {D : Addr} (g : Nat → List Int) (hD : H D = none) (hn : n ≤ 1000)
    (hte : ∀ i H2 (R : VK), i < n → (∀ r H3, H2 r = none → Same H2 H3 → H3 r = some (.lst (iv (g i))) → R (.ref r) H3) → te (some (.int (lo + i)) :: c) H2 R)
    (fin : ∀ as H', as.length = n → as.Nodup → D ∉ as → (∀ x ∈ as, H x = none) → Same H H' → RowsN H' D as ((List.range n).map g) → Q (.ref D) H') :
    CompG (Itr lo n) tTrue (tCutE te) c (L2.upd H D (.lst [])) Q D := by
  refine comp_range (fun i ys H' => ∃ as : List Addr, ys = as.map V.ref ∧ as.Nodup ∧ D ∉ as ∧ Same H H' ∧ ∀ (j : Nat) x, as[j]? = some x → H x = none ∧ H' x = some (.lst (iv (g j)))) upd_same ⟨[], rfl, List.nodup_nil, by simp, same_new hD _, fun j x e => by cases e⟩ hn ?_ ?_
  · rintro i ys H2 hi hl ⟨as, rfl, nd, hDa, s, hx⟩ hd
    rw [List.length_map] at hl
    refine hte i H2 _ hi fun r H3 hr s3 h3 => ?_
    have hrD : D ≠ r := ne_of_none hd hr
    have hra : r ∉ as := fun z => by
      obtain ⟨j, hj⟩ := List.mem_iff_getElem?.mp z
      have := (hx j r hj).2
      rw [hr] at this
      cases this
    refine ⟨s3 _ _ hd, as ++ [r], by rw [List.map_append]; rfl, nodup_snoc nd hra, fun z => ?_, (s.trans s3).upd hD _, fun j x e => ?_⟩
    · rcases List.mem_append.mp z with z | z
      · exact hDa z
      · exact hrD (List.mem_singleton.mp z)
    · by_cases hj : j < as.length
      · rw [List.getElem?_append_left hj] at e
        have hxD : x ≠ D := fun z => hDa (z ▸ List.mem_of_getElem? e)
        exact ⟨(hx j x e).1, by rw [upd_ne hxD]; exact s3 _ _ (hx j x e).2⟩
      · have hl' := (List.getElem?_eq_some_iff.mp e).1
        rw [List.length_append, List.length_singleton] at hl'
        have : j = as.length := by omega
        subst this
        rw [List.getElem?_append_right (Nat.le_refl _), Nat.sub_self] at e
        cases e
        exact ⟨s.free hr, by rw [upd_ne (Ne.symm hrD), hl]; exact h3⟩
  · rintro ys H2 hl ⟨as, rfl, nd, hDa, s, hx⟩ hd
    rw [List.length_map] at hl
    refine fin as H2 hl nd hDa (fun x h => ?_) s ⟨hd, by rw [List.length_map, List.length_range]; exact hl, fun i b l e1 e2 => ?_⟩
    · obtain ⟨j, hj⟩ := List.mem_iff_getElem?.mp h
      exact (hx j x hj).1
    · have hlt : i < n := by rw [← hl]; exact (List.getElem?_eq_some_iff.mp e1).1
      rw [List.getElem?_map, List.getElem?_range hlt] at e2
      cases e2
      exact (hx i b e1).2
/-- [number for j in range(n)] -/
theorem comp_ints {lo : Int} {n : Nat} {te : TE} {c : St} {H : Hp} {Q : VK} {D : Addr} (g : Nat → Int) (hD : H D = none) (hn : n ≤ 1000)
    (hte : ∀ i H2 (R : VK), i < n → R (.int (g i)) H2 → te (some (.int (lo + i)) :: c) H2 R)
    (fin : ∀ H', Same H H' → H' D = some (.lst (iv ((List.range n).map g))) → Q (.ref D) H') : CompG (Itr lo n) tTrue (tCutE te) c (L2.upd H D (.lst [])) Q D := by
  refine comp_range (fun i ys H' => ys = iv ((List.range i).map g) ∧ Same H H') upd_same ⟨rfl, same_new hD _⟩ hn ?_ ?_
  · rintro i ys H2 hi hl ⟨rfl, s⟩ hd
    refine hte i H2 _ hi ⟨hd, ?_, s.upd hD _⟩
    rw [List.range_succ, List.map_append, iv, iv, List.map_append]
    rfl
  · rintro ys H2 hl ⟨rfl, s⟩ hd
    exact fin H2 s hd
theorem emod_inj {n : Nat} {o : Int} {i j : Nat} (hi : i < n) (hj : j < n) (e : (o + (0 + (i : Int))) % (n : Int) = (o + (0 + (j : Int))) % (n : Int)) : i = j := by
  have h := Int.emod_eq_emod_iff_emod_sub_eq_zero.mp e
  have d : (n : Int) ∣ (i : Int) - (j : Int) := by
    have := Int.dvd_of_emod_eq_zero h
    have z : o + (0 + (i : Int)) - (o + (0 + (j : Int))) = (i : Int) - (j : Int) := by omega
    rwa [z] at this
  have := Int.eq_zero_of_dvd_of_natAbs_lt_natAbs d (by omega)
  omega
theorem ring_wl {n : Nat} (hn : 0 < n) (h100 : n ≤ 100) (o : Int) : Wl n ((List.range n).map fun j : Nat => (o + (0 + (j : Int))) % (n : Int)) := by
  refine ⟨GS.nodup_map_on List.nodup_range fun x hx y hy e => emod_inj (List.mem_range.mp hx) (List.mem_range.mp hy) e, fun x hx => ?_, by rw [List.length_map, List.length_range]; exact h100⟩
  obtain ⟨j, _, rfl⟩ := List.mem_map.mp hx
  exact ⟨Int.emod_nonneg _ (by omega), Int.emod_lt_of_pos _ (by omega)⟩
theorem iv_dropLast (l : List Int) : (iv l).dropLast = iv l.dropLast := by rw [iv, iv, List.map_dropLast]
end L2

set_option Elab.async false
set_option linter.all false
set_option maxRecDepth 100000
set_option maxHeartbeats 1000000
namespace L2
open PySem PySem.Spec PyProof.Rows
/-! ### lists by functions -/
def fnL {α : Type} (n : Nat) (g : Int → α) : List α := (List.range n).map fun i : Nat => g (i : Int)
theorem fnL_length {α : Type} (n : Nat) (g : Int → α) : (fnL n g).length = n := by unfold fnL; rw [List.length_map, List.length_range]
theorem fnL_get {α : Type} {n i : Nat} (g : Int → α) (h : i < n) : (fnL n g)[i]? = some (g (i : Int)) := by
  unfold fnL
  rw [List.getElem?_map, List.getElem?_range h]
  rfl
theorem fnL_getD {α : Type} {n : Nat} {k : Int} (g : Int → α) (h0 : 0 ≤ k) (h1 : k < (n : Int)) (d : α) : (fnL n g).getD k.toNat d = g k := by
  rw [List.getD_eq_getElem?_getD, fnL_get g (by omega), show ((k.toNat : Nat) : Int) = k by omega]
  rfl
theorem fnL_set {α : Type} {n : Nat} {k : Int} (g : Int → α) (h0 : 0 ≤ k) (v : α) : (fnL n g).set k.toNat v = fnL n fun q => if q = k then v else g q := by
  refine List.ext_getElem? fun i => ?_
  by_cases hi : i < n
  · by_cases e : k.toNat = i
    · subst e
      rw [List.getElem?_set_self (by rw [fnL_length]; exact hi), fnL_get _ hi, if_pos (by omega)]
    · rw [List.getElem?_set_ne e, fnL_get _ hi, fnL_get _ hi, if_neg (by omega)]
  · rw [List.getElem?_eq_none_iff.mpr (by rw [List.length_set, fnL_length]; omega), List.getElem?_eq_none_iff.mpr (by rw [fnL_length]; omega)]
theorem fnL_const {α : Type} (n : Nat) (v : α) : fnL n (fun _ => v) = List.replicate n v := by
  unfold fnL
  rw [List.map_const', List.length_range]
theorem fnL_map {α β : Type} (n : Nat) (g : Int → α) (f : α → β) : (fnL n g).map f = fnL n fun i => f (g i) := by
  unfold fnL
  rw [List.map_map]
  rfl
abbrev bv (bs : List Bool) : List V := bs.map V.bl
theorem atI_fn {n : Nat} {k : Int} {g : Int → V} (h0 : 0 ≤ k) (h1 : k < (n : Int)) : atI (fnL n g) k = some (g k) := by
  have ek : k = ((k.toNat : Nat) : Int) := by omega
  have q : atI (fnL n g) ((k.toNat : Nat) : Int) = some (g ((k.toNat : Nat) : Int)) := atI_nat (fnL_get g (by omega))
  rw [← ek] at q
  exact q
/-- the sums -/
def sumF (n : Nat) (f : Int → Nat) : Nat := (fnL n f).sum
theorem sumF_succ (n : Nat) (f : Int → Nat) : sumF (n + 1) f = sumF n f + f (n : Int) := by
  unfold sumF fnL
  rw [List.range_succ, List.map_append, List.sum_append]
  simp
theorem sumF_le {f g : Int → Nat} (h : ∀ p, f p ≤ g p) : ∀ n, sumF n f ≤ sumF n g
  | 0 => Nat.le_refl _
  | n + 1 => by
    rw [sumF_succ, sumF_succ]
    exact Nat.add_le_add (sumF_le h n) (h _)
theorem sumF_congr {f g : Int → Nat} : ∀ {n : Nat}, (∀ p : Int, 0 ≤ p → p < (n : Int) → f p = g p) → sumF n f = sumF n g
  | 0, _ => rfl
  | n + 1, h => by
    rw [sumF_succ, sumF_succ, sumF_congr (n := n) fun p h0 h1 => h p h0 (by omega), h (n : Int) (by omega) (by omega)]
theorem sumF_up {f : Int → Nat} {p : Int} (h0 : 0 ≤ p) : ∀ {n : Nat}, p < (n : Int) → sumF n (GS.up f p) = sumF n f + 1
  | 0, h => by omega
  | n + 1, h => by
    rw [sumF_succ, sumF_succ]
    by_cases e : p = (n : Int)
    · rw [sumF_congr (g := f) (n := n) fun q q0 q1 => GS.up_ne (by omega), ← e, GS.up_self]
      omega
    · rw [sumF_up h0 (n := n) (by omega), GS.up_ne (by omega)]
      omega
/-! ### wishes as functions -/
def gP (ls : List (List Int)) (p : Int) : List Int := if 0 ≤ p then rw ls p else []
theorem gP_of {ls : List (List Int)} {p : Int} (h : 0 ≤ p) : gP ls p = rw ls p := if_pos h
theorem gP_wl {ls : List (List Int)} {n : Nat} (h : WOk ls n) (p : Int) : Wl n (gP ls p) := by
  unfold gP
  split
  · exact h.rw p
  · exact Wl.nil n
theorem gP_mem {ls : List (List Int)} {n : Nat} (h : WOk ls n) {p x : Int} (hx : x ∈ gP ls p) : (0 ≤ p ∧ p < (ls.length : Int)) ∧ 0 ≤ x ∧ x < (n : Int) := by
  refine ⟨?_, (gP_wl h p).rg x hx⟩
  unfold gP at hx
  split at hx
  · rename_i h0
    refine ⟨h0, ?_⟩
    unfold L2.rw at hx
    rw [List.getD_eq_getElem?_getD] at hx
    cases e : ls[p.toNat]? with
    | none => rw [e] at hx; cases hx
    | some l =>
      have := (List.getElem?_eq_some_iff.mp e).1
      omega
  · cases hx
theorem gP_nd {ls : List (List Int)} {n : Nat} (h : WOk ls n) (p : Int) : (gP ls p).Nodup := (gP_wl h p).nd
theorem wants_iff (l : List Int) (x : Int) (o : Option Int) : wantsB l x o = true ↔ GS.wants l x o := by
  cases o with
  | none =>
    rw [wantsB_none, decide_eq_true_iff]
    exact ⟨fun h => ⟨h, fun y e => by cases e⟩, fun h => h.1⟩
  | some y =>
    rw [wantsB_some, Bool.and_eq_true, decide_eq_true_iff, decide_eq_true_iff]
    exact ⟨fun h => ⟨h.1, fun z e => by cases e; exact h.2⟩, fun h => ⟨h.1, h.2 y rfl⟩⟩
/-! ### a state of the asking, with who is busy -/
structure BS (ps bs : List (List Int)) (nx : Int → Nat) (hd : Int → Option Int) (bz : Int → Bool) : Prop where
  g : GS.Good (gP ps) (gP bs) nx hd
  b : ∀ p, bz p = true ↔ ∃ c, hd c = some p
section
variable {ps bs : List (List Int)} {nx : Int → Nat} {hd : Int → Option Int} {bz : Int → Bool}
theorem BS.start (ps bs : List (List Int)) : BS ps bs (fun _ => 0) (fun _ => none) (fun _ => false) :=
  ⟨GS.Good.start _ _, fun p => ⟨fun h => (by cases h), fun ⟨c, h⟩ => (by cases h)⟩⟩
theorem BS.in (S : BS ps bs nx hd bz) (hp : WOk ps bs.length) {b p : Int} (h : hd b = some p) : (0 ≤ p ∧ p < (ps.length : Int)) ∧ 0 ≤ b ∧ b < (bs.length : Int) :=
  gP_mem hp (S.g.has (gP_nd hp) h).1
theorem BS.take (S : BS ps bs nx hd bz) (hp : WOk ps bs.length) {p b : Int} (al : bz p = false) (e : (gP ps p)[nx p]? = some b) (w : wantsB (gP bs b) p (hd b) = true) :
    BS ps bs (GS.up nx p) (GS.put hd b p) (fun r => if r = p then true else if hd b = some r then false else bz r) := by
  have alone : ∀ c, hd c ≠ some p := fun c h => by
    have := (S.b p).mpr ⟨c, h⟩
    rw [al] at this
    cases this
  refine ⟨(S.g.step (gP_nd hp) alone e).1 ((wants_iff _ _ _).mp w), fun r => ?_⟩
  by_cases hr : r = p
  · subst hr
    rw [if_pos rfl]
    exact ⟨fun _ => ⟨b, GS.put_self ..⟩, fun _ => rfl⟩
  · rw [if_neg hr]
    by_cases hb : hd b = some r
    · rw [if_pos hb]
      refine ⟨fun h => (by cases h), fun ⟨c, h⟩ => ?_⟩
      by_cases hc : c = b
      · subst hc
        rw [GS.put_self] at h
        exact absurd (Option.some.inj h).symm hr
      · rw [GS.put_ne hc] at h
        exact absurd (S.g.inj h hb) hc
    · rw [if_neg hb]
      refine ⟨fun h => ?_, fun ⟨c, h⟩ => ?_⟩
      · obtain ⟨c, h⟩ := (S.b r).mp h
        have hc : c ≠ b := fun z => hb (z ▸ h)
        exact ⟨c, by rw [GS.put_ne hc]; exact h⟩
      · by_cases hc : c = b
        · subst hc
          rw [GS.put_self] at h
          exact absurd (Option.some.inj h).symm hr
        · rw [GS.put_ne hc] at h
          exact (S.b r).mpr ⟨c, h⟩
theorem BS.leave (S : BS ps bs nx hd bz) (hp : WOk ps bs.length) {p b : Int} (al : bz p = false) (e : (gP ps p)[nx p]? = some b) (w : wantsB (gP bs b) p (hd b) = false) : BS ps bs (GS.up nx p) hd bz := by
  have alone : ∀ c, hd c ≠ some p := fun c h => by
    have := (S.b p).mpr ⟨c, h⟩
    rw [al] at this
    cases this
  exact ⟨(S.g.step (gP_nd hp) alone e).2 fun z => (by rw [(wants_iff _ _ _).mpr z] at w; cases w), S.b⟩
end
theorem set_spots {n : Nat} {nx : Int → Nat} {p : Int} (h : 0 ≤ p) : (fnL n fun q => V.int (nx q : Int)).set p.toNat (.int ((nx p : Int) + 1)) = fnL n fun q => V.int (GS.up nx p q : Int) := by
  rw [fnL_set _ h]
  congr 1
  funext q
  unfold GS.up
  split
  · rename_i e; rw [e]; rfl
  · rfl
theorem set_has {m : Nat} {hd : Int → Option Int} {b : Int} (p : Int) (h : 0 ≤ b) : (fnL m fun c => oV (hd c)).set b.toNat (.int p) = fnL m fun c => oV (GS.put hd b p c) := by
  rw [fnL_set _ h]
  congr 1
  funext q
  unfold GS.put
  split <;> rfl
theorem set_busy {n : Nat} {bz : Int → Bool} {p : Int} (v : Bool) (h : 0 ≤ p) : (fnL n fun q => V.bl (bz q)).set p.toNat (.bl v) = fnL n fun q => V.bl (if q = p then v else bz q) := by
  rw [fnL_set _ h]
  congr 1
  funext q
  split <;> rfl
theorem rep_fn {n : Nat} (v : V) : (List.replicate n [v]).flatten = fnL n fun _ => v := by rw [rep_flat, fnL_const]
end L2

set_option Elab.async false
set_option linter.all false
set_option maxRecDepth 100000
set_option maxHeartbeats 1000000
namespace L2
open PySem PySem.Spec PyProof.Rows
section
variable {X : Cx}
/-- sorted(xs), at most 63 ints: a new list -/
theorem call_sortedI : CallR X (.builtin "sorted") (fun xs H Q => ∃ l ns, xs = [.ref l] ∧ SqL X.K H l (iv ns) ∧ ns.length < 64 ∧ ∀ p ns', H p = none → ns'.Perm ns → ns'.Pairwise (· ≤ ·) → Q (.ref p) (upd H p (.lst (iv ns')))) := by
  intro pins s σ H xs us Q I r h
  obtain ⟨l, ns, rfl, hq, h64, q⟩ := h
  obtain ⟨u, rfl, rx⟩ := vals1 r
  cases rx
  obtain ⟨its, rv, pl, hz⟩ := I.list hq
  have hlen : its.length = ns.length := by rw [← rv.length, iv, List.length_map]
  refine PyProof.Rows.sorted_ints pl.isList (intsAre_of rv) (by omega) fun out ns' a1 a2 a3 => ?_
  obtain ⟨e, he⟩ := PyProof.Rows.sortedAll_at s.heap its out
  have hl' : ns'.length = ns.length := a2.length_eq
  refine ⟨.ref (s.heap.objs.size + 1), _, I.laid (t' := s.toks) (o := .lst (iv ns')) (fun b ob z => PyProof.Rows.sortedAll_old z) (Nat.le_succ _) ?_, rfl, q _ ns' (I.hok.fresh (Nat.le_succ _)) a2 a3⟩
  refine ⟨by rw [iv, List.length_map, hl']; exact small63 (by omega), out.toList, e, vals_ints a1, ?_⟩
  rw [he]
/-! ### tuples of flat items compared -/
def rEqT (K : PySem.W.Frag) (neg : Bool) : R2 := fun x y H Q => ∃ a b xs ys, x = .ref a ∧ y = .ref b ∧ SqT K H a xs ∧ SqT K H b ys ∧ xs.length = ys.length ∧ xs.all flatV = true ∧ ys.all flatV = true ∧ Q (.bl (if neg then !eqL xs ys else eqL xs ys)) H
theorem op_eqT (hu : X.A.units < cLine) : OpR X (compareOp .Eq) (rEqT X.K false) := by
  intro pins s σ H x y v u Q I rx ry h
  obtain ⟨a, b, xs, ys, rfl, rfl, ha, hb, he, fx, fy, q⟩ := h
  cases rx
  cases ry
  obtain ⟨its, r, pl, hz⟩ := I.tuple ha
  obtain ⟨its', r', pl', hz'⟩ := I.tuple hb
  have l1 := r.length
  have l2 := r'.length
  refine SeqAt.eq_tupleAt pl pl' hu (fun j h1 h2 => eqAt_items r r' fx fy j h1 h2) ⟨.bl _, H, I, rfl, ?_⟩
  rw [List.size_toArray, List.size_toArray, ← l1, ← l2, he, Nat.min_self, beq_self_eq_true, Bool.and_true, ← he, eqL_range he]
  exact q
theorem op_neT (hu : X.A.units < cLine) : OpR X (compareOp .NotEq) (rEqT X.K true) := by
  intro pins s σ H x y v u Q I rx ry h
  obtain ⟨a, b, xs, ys, rfl, rfl, ha, hb, he, fx, fy, q⟩ := h
  cases rx
  cases ry
  obtain ⟨its, r, pl, hz⟩ := I.tuple ha
  obtain ⟨its', r', pl', hz'⟩ := I.tuple hb
  have l1 := r.length
  have l2 := r'.length
  refine SeqAt.RcNeAt.tuples pl pl' hu (fun j h1 h2 => eqAt_items r r' fx fy j h1 h2) _ _ _ _ ⟨.bl _, H, I, rfl, ?_⟩
  rw [List.size_toArray, List.size_toArray, ← l1, ← l2, he, Nat.min_self, beq_self_eq_true, Bool.and_true, ← he, eqL_range he]
  exact q
end
/-! ### tests that are known -/
theorem iteD {c A B : Prop} [Decidable c] (h : c) (hA : A) : if decide c = true then A else B := by rw [if_pos (decide_eq_true h)]; exact hA
theorem iteDF {c A B : Prop} [Decidable c] (h : ¬ c) (hB : B) : if decide c = true then A else B := by rw [if_neg (by rw [decide_eq_false h]; exact Bool.false_ne_true)]; exact hB
theorem iteNND {c A B : Prop} [Decidable c] (h : ¬ c) (hA : A) : if (!decide c) = true then A else B := by rw [if_pos (by rw [decide_eq_false h]; rfl)]; exact hA
theorem iteNI {x : Int} {l : List Int} {A B : Prop} (h : x ∈ l) (hB : B) : if (if true = true then !inV (.int x) (iv l) else inV (.int x) (iv l)) = true then A else B := by
  rw [inV_ints, decide_eq_true h]
  exact iteF hB
theorem iteI {x : Int} {l : List Int} {A B : Prop} (h : ¬ x ∈ l) (hB : B) : if (if false = true then !inV (.int x) (iv l) else inV (.int x) (iv l)) = true then A else B := by
  rw [inV_ints, decide_eq_false h]
  exact iteF hB
/-! ### pairings -/
structure PIn (ps bs : List (List Int)) (prs : List (Int × Int)) : Prop where
  r1 : ∀ pr ∈ prs, 0 ≤ pr.1 ∧ pr.1 < (ps.length : Int)
  r2 : ∀ pr ∈ prs, 0 ≤ pr.2 ∧ pr.2 < (bs.length : Int)
  m1 : ∀ pr ∈ prs, pr.2 ∈ rw ps pr.1
  m2 : ∀ pr ∈ prs, pr.1 ∈ rw bs pr.2
structure POk (ps bs : List (List Int)) (prs : List (Int × Int)) : Prop extends PIn ps bs prs where
  d1 : (prs.map (·.1)).Nodup
  d2 : (prs.map (·.2)).Nodup
  up : (prs.map (·.1)).Pairwise (· ≤ ·)
theorem take_map_succ {β : Type} {prs : List (Int × Int)} {i : Nat} (f : Int × Int → β) (h : i < prs.length) : (prs.take (i + 1)).map f = (prs.take i).map f ++ [f prs[i]] := by
  rw [List.take_succ_eq_append_getElem h, List.map_append]
  rfl
theorem not_before {f : Int × Int → Int} {prs : List (Int × Int)} (nd : (prs.map f).Nodup) {i : Nat} (h : i < prs.length) : ¬ f prs[i] ∈ (prs.take i).map f := by
  have e : prs.map f = (prs.take i).map f ++ f prs[i] :: (prs.drop (i + 1)).map f := by
    rw [← List.map_cons, ← List.map_append, ← List.drop_eq_getElem_cons h, List.take_append_drop]
  rw [e] at nd
  intro hm
  exact (List.nodup_append.mp nd).2.2 _ hm _ List.mem_cons_self rfl
theorem mate_in {sd : Int} : ∀ {prs : List (Int × Int)} {row : List (Option Int)} {k : Nat} {y : Int}, (prs.foldl (fun row p => row.set (mkey sd p).toNat (some (mval sd p))) row)[k]? = some (some y) →
    (∃ pr ∈ prs, (mkey sd pr).toNat = k ∧ mval sd pr = y) ∨ row[k]? = some (some y)
  | [], row, k, y, h => .inr h
  | p :: prs, row, k, y, h => by
    rw [List.foldl_cons] at h
    rcases mate_in h with ⟨pr, hp, e1, e2⟩ | h
    · exact .inl ⟨pr, List.mem_cons_of_mem _ hp, e1, e2⟩
    · by_cases e : (mkey sd p).toNat = k
      · refine .inl ⟨p, List.mem_cons_self, e, ?_⟩
        by_cases hk : k < row.length
        · rw [e, List.getElem?_set_self hk] at h
          exact Option.some.inj (Option.some.inj h)
        · rw [List.getElem?_eq_none_iff.mpr (by rw [List.length_set]; omega)] at h
          cases h
      · rw [List.getElem?_set_ne e] at h
        exact .inr h
theorem mateF_in {sd : Int} {n : Nat} {prs : List (Int × Int)} {k : Nat} {y : Int} (h : (mateF sd n prs).getD k none = some y) : ∃ pr ∈ prs, (mkey sd pr).toNat = k ∧ mval sd pr = y := by
  rw [List.getD_eq_getElem?_getD] at h
  cases e : (mateF sd n prs)[k]? with
  | none => rw [e] at h; cases h
  | some o =>
    rw [e] at h
    have h : o = some y := h
    rcases mate_in (by rw [← h, ← e]; rfl) with z | z
    · exact z
    · rw [List.getElem?_replicate] at z
      split at z <;> cases z
/-! ### loose pairs by a walk over all -/
def lz (ps bs : List (List Int)) (prs : List (Int × Int)) (p b : Int) : Bool :=
  wantsB (rw ps p) b ((mateF 0 ps.length prs).getD p.toNat none) && wantsB (rw bs b) p ((mateF 1 bs.length prs).getD b.toNat none)
def lzRow (ps bs : List (List Int)) (prs : List (Int × Int)) (p : Int) (j : Nat) : List (Int × Int) := ((List.range j).filter fun b : Nat => lz ps bs prs p (b : Int)).map fun b : Nat => (p, (b : Int))
def lzAll (ps bs : List (List Int)) (prs : List (Int × Int)) (i : Nat) : List (Int × Int) := (List.range i).flatMap fun p : Nat => lzRow ps bs prs (p : Int) bs.length
theorem lzRow_succ (ps bs : List (List Int)) (prs : List (Int × Int)) (p : Int) (j : Nat) : lzRow ps bs prs p (j + 1) = lzRow ps bs prs p j ++ if lz ps bs prs p (j : Int) = true then [(p, (j : Int))] else [] := by
  unfold lzRow
  rw [List.range_succ, List.filter_append, List.map_append]
  congr 1
  rw [List.filter_cons, List.filter_nil]
  split <;> rfl
theorem lzAll_succ (ps bs : List (List Int)) (prs : List (Int × Int)) (i : Nat) : lzAll ps bs prs (i + 1) = lzAll ps bs prs i ++ lzRow ps bs prs (i : Int) bs.length := by
  unfold lzAll
  rw [List.range_succ, List.flatMap_append]
  simp
theorem lzRow_len (ps bs : List (List Int)) (prs : List (Int × Int)) (p : Int) (j : Nat) : (lzRow ps bs prs p j).length ≤ j := by
  unfold lzRow
  rw [List.length_map]
  exact Nat.le_trans (List.length_filter_le _ _) (by rw [List.length_range]; exact Nat.le_refl _)
theorem lzAll_len (ps bs : List (List Int)) (prs : List (Int × Int)) : ∀ i, (lzAll ps bs prs i).length ≤ i * bs.length
  | 0 => Nat.zero_le _
  | i + 1 => by
    rw [lzAll_succ, List.length_append, Nat.succ_mul]
    exact Nat.add_le_add (lzAll_len ps bs prs i) (lzRow_len _ _ _ _ _)
end L2

set_option Elab.async false
set_option linter.all false
set_option maxRecDepth 100000
set_option maxHeartbeats 1000000
namespace L2
open PySem PySem.Spec PyProof.Rows
theorem cut_fromI (ns : List Int) {k : Int} (h : 0 ≤ k) : cutV (iv ns) (some k) none = iv (ns.drop k.toNat) := by
  have e : k = ((k.toNat : Nat) : Int) := by omega
  rw [e, cut_from, iv, iv, List.map_drop, Int.toNat_natCast]
theorem cut_all (ns : List Int) (h : ns.length ≤ 63) : cutV (iv ns) none (some 1000) = iv ns := by
  rw [show (1000 : Int) = ((1000 : Nat) : Int) from rfl, cut_to, List.take_of_length_le (by rw [iv, List.length_map]; omega)]
/-! ### what the program's defs promise -/
structure PrOf (hd : Int → Option Int) (prs : List (Int × Int)) : Prop where
  iff : ∀ p b, (p, b) ∈ prs ↔ hd b = some p
  up : (prs.map (·.1)).Pairwise (· < ·)
section
variable {ps bs : List (List Int)} {nx : Int → Nat} {hd : Int → Option Int} {prs : List (Int × Int)}
theorem nodup_of_map {α β : Type} {f : α → β} : ∀ {l : List α}, (l.map f).Nodup → l.Nodup
  | [], _ => List.nodup_nil
  | x :: l, h => by
    rw [List.map_cons, List.nodup_cons] at h
    exact List.nodup_cons.mpr ⟨fun z => h.1 (List.mem_map.mpr ⟨x, z, rfl⟩), nodup_of_map h.2⟩
theorem len_le_of_range {l : List Int} {n : Nat} (nd : l.Nodup) (h : ∀ x ∈ l, 0 ≤ x ∧ x < (n : Int)) : l.length ≤ n := by
  have := GS.le_of_subset (m := (List.range n).map fun i : Nat => (i : Int)) nd fun x hx => List.mem_map.mpr ⟨x.toNat, List.mem_range.mpr (by have := h x hx; omega), by have := h x hx; omega⟩
  rwa [List.length_map, List.length_range] at this
theorem PrOf.pok (R : PrOf hd prs) (G : GS.Good (gP ps) (gP bs) nx hd) (op : WOk ps bs.length) : POk ps bs prs := by
  have hin : ∀ pr ∈ prs, ((0 ≤ pr.1 ∧ pr.1 < (ps.length : Int)) ∧ 0 ≤ pr.2 ∧ pr.2 < (bs.length : Int)) ∧ pr.2 ∈ gP ps pr.1 ∧ pr.1 ∈ gP bs pr.2 := fun pr h => by
    have e := (R.iff pr.1 pr.2).mp h
    have h1 := (G.has (gP_nd op) e).1
    exact ⟨gP_mem op h1, h1, G.suitB e⟩
  have d1 : (prs.map (·.1)).Nodup := R.up.imp fun h => Int.ne_of_lt h
  refine { r1 := fun pr h => (hin pr h).1.1, r2 := fun pr h => (hin pr h).1.2, m1 := fun pr h => ?_, m2 := fun pr h => ?_, d1 := d1, d2 := ?_, up := R.up.imp fun h => Int.le_of_lt h }
  · have := (hin pr h).2.1
    rwa [gP_of (hin pr h).1.1.1] at this
  · have := (hin pr h).2.2
    rwa [gP_of (hin pr h).1.2.1] at this
  · refine GS.nodup_map_on (nodup_of_map d1) fun x hx y hy e => ?_
    have e1 := (R.iff x.1 x.2).mp hx
    have e2 := (R.iff y.1 y.2).mp hy
    rw [e, e2] at e1
    exact Prod.ext (Option.some.inj e1).symm e
theorem POk.len (O : POk ps bs prs) : prs.length ≤ ps.length := by
  have := len_le_of_range O.d1 (n := ps.length) fun x hx => by
    obtain ⟨pr, h, rfl⟩ := List.mem_map.mp hx
    exact O.r1 pr h
  rwa [List.length_map] at this
/-! ### the mate of each -/
theorem fold_keep {sd : Int} : ∀ {prs : List (Int × Int)} {row : List (Option Int)} {k : Nat}, (∀ pr ∈ prs, (mkey sd pr).toNat ≠ k) → (prs.foldl (fun row p => row.set (mkey sd p).toNat (some (mval sd p))) row)[k]? = row[k]?
  | [], _, _, _ => rfl
  | p :: prs, row, k, h => by
    rw [List.foldl_cons, fold_keep fun pr hp => h pr (List.mem_cons_of_mem _ hp), List.getElem?_set_ne (h p List.mem_cons_self)]
theorem mate_get {sd : Int} : ∀ {prs : List (Int × Int)} {row : List (Option Int)} {pr : Int × Int}, (prs.map (mkey sd)).Nodup → (∀ q ∈ prs, 0 ≤ mkey sd q) → pr ∈ prs → (mkey sd pr).toNat < row.length →
    (prs.foldl (fun row p => row.set (mkey sd p).toNat (some (mval sd p))) row)[(mkey sd pr).toNat]? = some (some (mval sd pr))
  | [], _, _, _, _, h, _ => by cases h
  | p :: prs, row, pr, nd, h0, h, hl => by
    rw [List.map_cons, List.nodup_cons] at nd
    rw [List.foldl_cons]
    rcases List.mem_cons.mp h with rfl | h
    · rw [fold_keep, List.getElem?_set_self hl]
      intro q hq e
      refine nd.1 (List.mem_map.mpr ⟨q, hq, ?_⟩)
      have a := h0 q (List.mem_cons_of_mem _ hq)
      have b := h0 pr List.mem_cons_self
      omega
    · exact mate_get nd.2 (fun q hq => h0 q (List.mem_cons_of_mem _ hq)) h (by rw [List.length_set]; exact hl)
theorem mateF_get {sd : Int} {n : Nat} {prs : List (Int × Int)} {pr : Int × Int} (nd : (prs.map (mkey sd)).Nodup) (h0 : ∀ q ∈ prs, 0 ≤ mkey sd q) (h : pr ∈ prs) (hn : mkey sd pr < (n : Int)) : (mateF sd n prs).getD (mkey sd pr).toNat none = some (mval sd pr) := by
  rw [List.getD_eq_getElem?_getD]
  have := h0 pr h
  have e : (mateF sd n prs)[(mkey sd pr).toNat]? = some (some (mval sd pr)) := mate_get (row := List.replicate n none) nd h0 h (by rw [List.length_replicate]; omega)
  rw [e]
  rfl
theorem POk.mate0 (O : POk ps bs prs) {p b : Int} (h : (p, b) ∈ prs) : (mateF 0 ps.length prs).getD p.toNat none = some b :=
  mateF_get (sd := 0) (pr := (p, b)) O.d1 (fun q hq => (O.r1 q hq).1) h (O.r1 _ h).2
theorem POk.mate1 (O : POk ps bs prs) {p b : Int} (h : (p, b) ∈ prs) : (mateF 1 bs.length prs).getD b.toNat none = some p :=
  mateF_get (sd := 1) (pr := (p, b)) O.d2 (fun q hq => (O.r2 q hq).1) h (O.r2 _ h).2
/-- nobody is loose in the end -/
theorem lz_none (R : PrOf hd prs) (G : GS.Good (gP ps) (gP bs) nx hd) (D : GS.Done (gP ps) nx hd) (op : WOk ps bs.length) {p b : Int} (p0 : 0 ≤ p) (b0 : 0 ≤ b) : lz ps bs prs p b = false := by
  have O := R.pok G op
  apply Bool.eq_false_iff.mpr
  intro h
  unfold lz at h
  rw [Bool.and_eq_true] at h
  obtain ⟨h1, h2⟩ := h
  have w1 := (wants_iff _ _ _).mp h1
  have w2 := (wants_iff _ _ _).mp h2
  have S := G.stable (gP_nd op) D
  refine S.stay (p := p) (b := b) (by rw [gP_of p0]; exact w1.1) (by rw [gP_of b0]; exact w2.1) (fun b' hb => ?_) (fun p' hp => ?_)
  · rw [gP_of p0]
    exact w1.2 b' (O.mate0 ((R.iff p b').mpr hb))
  · rw [gP_of b0]
    exact w2.2 p' (O.mate1 ((R.iff p' b).mpr hp))
theorem lzAll_nil (h : ∀ p b : Int, 0 ≤ p → 0 ≤ b → lz ps bs prs p b = false) (i : Nat) : lzAll ps bs prs i = [] := by
  unfold lzAll
  rw [List.flatMap_eq_nil_iff]
  intro p _
  unfold lzRow
  rw [List.map_eq_nil_iff, List.filter_eq_nil_iff]
  intro b _
  rw [h _ _ (by omega) (by omega)]
  exact Bool.false_ne_true
end
def sp_paired (K : PySem.W.Frag) : Sp := fun vs H Q _ => ∃ (p b : Addr) (ps bs : List (List Int)), vs = [.ref p, .ref b] ∧ RowsAt H p ps ∧ RowsAt H b bs ∧ ps.length ≤ 9 ∧ bs.length ≤ 9 ∧ WOk ps bs.length ∧ WOk bs ps.length ∧
  ∀ (r : Addr) (prs : List (Int × Int)) (nx : Int → Nat) (hd : Int → Option Int) (H' : Hp), Same H H' → PrsAt H' r prs → GS.Good (gP ps) (gP bs) nx hd → GS.Done (gP ps) nx hd → PrOf hd prs → Q (.ref r) H'
def sp_askings (K : PySem.W.Frag) : Sp := fun vs H Q _ => ∃ (p b : Addr) (ps bs : List (List Int)), vs = [.ref p, .ref b] ∧ RowsAt H p ps ∧ RowsAt H b bs ∧ ps.length ≤ 9 ∧ bs.length ≤ 9 ∧ WOk ps bs.length ∧ WOk bs ps.length ∧
  ∀ (nx : Int → Nat) (hd : Int → Option Int) (H' : Hp), Same H H' → GS.Good (gP ps) (gP bs) nx hd → GS.Done (gP ps) nx hd → Q (.int (sumF ps.length nx : Int)) H'
def sp_loose (K : PySem.W.Frag) : Sp := fun vs H Q _ => ∃ (p b a : Addr) (ps bs : List (List Int)) (prs : List (Int × Int)), vs = [.ref p, .ref b, .ref a] ∧ RowsAt H p ps ∧ RowsAt H b bs ∧ PrsAt H a prs ∧ ps.length ≤ 9 ∧ bs.length ≤ 9 ∧ WOk ps bs.length ∧ WOk bs ps.length ∧ PIn ps bs prs ∧
  (prs.map (·.1)).Nodup ∧ (prs.map (·.2)).Nodup ∧ ∀ (r : Addr) (H' : Hp), Same H H' → PrsAt H' r (lzAll ps bs prs ps.length) → Q (.ref r) H'
def sp_stays (K : PySem.W.Frag) : Sp := fun vs H Q _ => ∃ (p b a : Addr) (ps bs : List (List Int)) (prs : List (Int × Int)), vs = [.ref p, .ref b, .ref a] ∧ RowsAt H p ps ∧ RowsAt H b bs ∧ PrsAt H a prs ∧ ps.length ≤ 9 ∧ bs.length ≤ 9 ∧ WOk ps bs.length ∧ WOk bs ps.length ∧ PIn ps bs prs ∧
  (prs.map (·.1)).Nodup ∧ (prs.map (·.2)).Nodup ∧ ∀ (H' : Hp), Same H H' → Q (.bl (decide (lzAll ps bs prs ps.length = []))) H'
def spLaw (K : PySem.W.Frag) : Sp := fun vs H Q _ => ∃ (a : Addr) (ns : List Int), vs = [.ref a] ∧ SqL K H a (ns.map V.int) ∧ ns.length ≤ 63 ∧ ∀ H', Q (.bl true) H'
theorem WOk.short {ls : List (List Int)} {n : Nat} (h : WOk ls n) : ∀ l ∈ ls, l.length ≤ 1000 := fun l hl => Nat.le_trans (h l hl).sh (by decide)
end L2

set_option Elab.async false
set_option linter.all false
set_option maxRecDepth 100000
set_option maxHeartbeats 1000000
namespace L2
open PySem PySem.Spec PyProof.Rows
/-- how many boats each has asked in the end -/
theorem nx_end {ps bs : List (List Int)} {nx : Int → Nat} {hd : Int → Option Int} (G : GS.Good (gP ps) (gP bs) nx hd) (D : GS.Done (gP ps) nx hd) (op : WOk ps bs.length) {p : Int} (p0 : 0 ≤ p) :
    ((∀ b, hd b ≠ some p) → nx p = (rw ps p).length) ∧ ∀ b, hd b = some p → nx p = (rw ps p).idxOf b + 1 ∧ b ∈ rw ps p := by
  refine ⟨fun h => ?_, fun b h => ?_⟩
  · rw [D p h, gP_of p0]
  · obtain ⟨h1, h2⟩ := G.has (gP_nd op) h
    rw [gP_of p0] at h1 h2
    exact ⟨h2, h1⟩
theorem ov_fn (n : Nat) (g : Int → Option Int) : ov (fnL n g) = fnL n fun k => oV (g k) := fnL_map n g oV
/-! ### a pair among pairs -/
def isPr (H : Hp) (u v : Int) : Value → Bool
  | .ref b => match H b with
    | some (.tup [.int p, .int q]) => decide ((p, q) = (u, v))
    | _ => false
  | _ => false
theorem isPr_of {H : Hp} {b : Addr} {p q : Int} (h : H b = some (.tup [.int p, .int q])) (u v : Int) : isPr H u v (.ref b) = decide ((p, q) = (u, v)) := by
  unfold isPr
  simp only [h]
theorem refs_of : ∀ {ts : List Addr} {us : List Value}, Vals (ts.map V.ref) us → us = ts.map Value.ref
  | [], _, .nil => rfl
  | t :: ts, _, .cons r rr => by rw [show _ = Value.ref t from r, refs_of rr]; rfl
theorem eqL_pair (p q u v : Int) : eqL [.int p, .int q] [.int u, .int v] = decide ((p, q) = (u, v)) := by
  show ((p == u) && ((q == v) && true)) = _
  by_cases h1 : p = u
  · by_cases h2 : q = v
    · subst h1 h2; simp
    · simp [h1, h2]
  · simp [h1]
def rInT (neg : Bool) : R2 := fun x y H Q => ∃ t a u v ts prs, x = .ref t ∧ y = .ref a ∧ H t = some (.tup [.int u, .int v]) ∧ PrsN H a ts prs ∧ Q (.bl (if neg then !decide ((u, v) ∈ prs) else decide ((u, v) ∈ prs))) H
theorem op_notInT {X : Cx} (hu : X.A.units + 1 < cLine) : OpR X (compareOp .NotIn) (rInT true) := by
  intro pins s σ H x y v' u' Q I rx ry h
  obtain ⟨t, a, u, v, ts, prs, rfl, rfl, ht, hP, q⟩ := h
  cases rx
  cases ry
  obtain ⟨its, r, pl, hz⟩ := I.list (SqL.of (K := X.K) hP.top)
  have hits := refs_of r
  subst hits
  obtain ⟨it', r', pl', _⟩ := I.tuple (SqT.of (K := X.K) ht)
  have each : ∀ w ∈ ts, ∃ p q, (p, q) ∈ prs ∧ H w = some (.tup [.int p, .int q]) := fun w hw => by
    obtain ⟨i, hi⟩ := List.mem_iff_getElem?.mp hw
    have hlt : i < prs.length := by rw [← hP.len]; exact (List.getElem?_eq_some_iff.mp hi).1
    exact ⟨prs[i].1, prs[i].2, List.getElem_mem hlt, hP.row i w _ hi (List.getElem?_eq_getElem hlt)⟩
  refine SeqAt.notIn_listAt (isPr H u v) pl.isList (fun w hw => ?_) ⟨.bl _, H, I, rfl, ?_⟩
  · have hw : w ∈ ts.map Value.ref := by simpa using hw
    obtain ⟨b, hb, rfl⟩ := List.mem_map.mp hw
    obtain ⟨p, q', _, hb'⟩ := each b hb
    rw [isPr_of hb']
    by_cases e : b = t
    · subst e
      rw [ht] at hb'
      cases hb'
      rw [decide_eq_true rfl]
      exact SeqAt.EqAt.same _
    · obtain ⟨it, r2, pl2, _⟩ := I.tuple (SqT.of (K := X.K) hb')
      have l1 := r2.length
      have l2 := r'.length
      have z := SeqAt.RcAt.tuples (A := X.A.in1) pl2 pl' (show X.A.units + 1 < cLine from hu) (fun j h1 h2 => eqAt_items r2 r' rfl rfl j h1 h2)
      rw [List.size_toArray, List.size_toArray, ← l1, ← l2] at z
      have z2 : ((List.range (min ([V.int p, V.int q'] : List V).length ([V.int u, V.int v] : List V).length)).all fun j => eqV (([V.int p, V.int q'] : List V).getD j .non) (([V.int u, V.int v] : List V).getD j .non)) = eqL [.int p, .int q'] [.int u, .int v] := eqL_range (xs := [V.int p, V.int q']) (ys := [V.int u, V.int v]) rfl
      rw [z2, eqL_pair] at z
      refine SeqAt.EqAt.of_refs e ?_
      have z3 : (decide ((p, q') = (u, v)) && (([V.int p, V.int q'] : List V).length == ([V.int u, V.int v] : List V).length)) = decide ((p, q') = (u, v)) := by
        rw [show (([V.int p, V.int q'] : List V).length == ([V.int u, V.int v] : List V).length) = true from rfl, Bool.and_true]
      rw [z3] at z
      exact z
  · have e : (ts.map Value.ref).toArray.any (isPr H u v) = decide ((u, v) ∈ prs) := by
      rw [show (ts.map Value.ref).toArray.any (isPr H u v) = (ts.map Value.ref).any (isPr H u v) by simp]
      apply Bool.eq_iff_iff.mpr
      rw [List.any_eq_true, decide_eq_true_iff]
      refine ⟨fun ⟨w, hw, hp⟩ => ?_, fun hm => ?_⟩
      · obtain ⟨b, hb, rfl⟩ := List.mem_map.mp hw
        obtain ⟨p, q', hin, hb'⟩ := each b hb
        rw [isPr_of hb', decide_eq_true_iff] at hp
        exact hp ▸ hin
      · obtain ⟨i, hi⟩ := List.mem_iff_getElem?.mp hm
        have hlt : i < ts.length := by rw [hP.len]; exact (List.getElem?_eq_some_iff.mp hi).1
        have hb := hP.row i ts[i] _ (List.getElem?_eq_getElem hlt) hi
        exact ⟨.ref ts[i], List.mem_map.mpr ⟨_, List.getElem_mem hlt, rfl⟩, by rw [isPr_of hb]; exact decide_eq_true rfl⟩
    rw [e]
    exact q
/-! ### how many pairs -/
def cntF (hd : Int → Option Int) (i : Nat) : Nat := ((List.range i).filter fun b : Nat => (hd (b : Int)).isSome).length
theorem cntF_succ (hd : Int → Option Int) (i : Nat) : cntF hd (i + 1) = cntF hd i + if (hd (i : Int)).isSome = true then 1 else 0 := by
  unfold cntF
  rw [List.range_succ, List.filter_append, List.length_append]
  congr 1
  rw [List.filter_cons, List.filter_nil]
  split <;> rfl
theorem PrOf.count {ps bs : List (List Int)} {nx : Int → Nat} {hd : Int → Option Int} {prs : List (Int × Int)} (R : PrOf hd prs) (G : GS.Good (gP ps) (gP bs) nx hd) (op : WOk ps bs.length) : prs.length = cntF hd bs.length := by
  have O := R.pok G op
  have a1 : (prs.map (·.2)).length ≤ (((List.range bs.length).filter fun b : Nat => (hd (b : Int)).isSome).map fun b : Nat => (b : Int)).length := by
    refine GS.le_of_subset O.d2 fun x hx => ?_
    obtain ⟨pr, h, rfl⟩ := List.mem_map.mp hx
    have e := (R.iff pr.1 pr.2).mp h
    obtain ⟨r0, r1⟩ := O.r2 pr h
    refine List.mem_map.mpr ⟨pr.2.toNat, List.mem_filter.mpr ⟨List.mem_range.mpr (by omega), ?_⟩, by omega⟩
    rw [show ((pr.2.toNat : Nat) : Int) = pr.2 by omega, e]
    rfl
  have a2 : (((List.range bs.length).filter fun b : Nat => (hd (b : Int)).isSome).map fun b : Nat => (b : Int)).length ≤ (prs.map (·.2)).length := by
    refine GS.le_of_subset (GS.nodup_map_on (List.nodup_range.filter _) fun x _ y _ e => by omega) fun x hx => ?_
    obtain ⟨b, hb, rfl⟩ := List.mem_map.mp hx
    obtain ⟨p, hp⟩ := Option.isSome_iff_exists.mp (List.mem_filter.mp hb).2
    exact List.mem_map.mpr ⟨(p, (b : Int)), (R.iff p b).mpr hp, rfl⟩
  rw [List.length_map, List.length_map] at a1 a2
  unfold cntF
  omega
theorem oV_some (x : Int) : oV (some x) = V.int x := rfl
end L2

set_option Elab.async false
set_option linter.all false
set_option maxRecDepth 100000
set_option maxHeartbeats 1000000
namespace L2
open PySem PySem.Spec PyProof.Rows
/-- the end of a test, said once -/
def tCutT (t : TT) : TT := fun σ H Q => ∃ R : Bool → Hp → Prop, t σ H R ∧ ∀ b H', R b H' → Q b H'
theorem pt_cutT {X : Cx} {e : Expr} {t : TT} (h : PT X e t) : PT X e (tCutT t) := by
  intro pins s σ H Q I hw
  obtain ⟨R, hw, k⟩ := hw
  exact thn (h pins s σ H _ I hw) fun b s' ⟨H', J, q⟩ => ⟨H', J, k _ _ q⟩
/-- over a range, with a test -/
theorem comp_rangeT {lo : Int} {n : Nat} {tc : TT} {te : TE} {c : St} {H : Hp} {Q : VK} {D : Addr} (Pv : Nat → List V → Hp → Prop) (hD : H D = some (.lst [])) (h0 : Pv 0 [] H) (hn : n ≤ 1000)
    (turn : ∀ i ys H2, i < n → ys.length ≤ i → Pv i ys H2 → H2 D = some (.lst ys) → tc (some (.int (lo + i)) :: c) H2 fun b H4 => if b = true then te (some (.int (lo + i)) :: c) H4 (fun y H5 => H5 D = some (.lst ys) ∧ Pv (i + 1) (ys ++ [y]) (upd H5 D (.lst (ys ++ [y])))) else H4 D = some (.lst ys) ∧ Pv (i + 1) ys H4)
    (fin : ∀ ys H2, Pv n ys H2 → H2 D = some (.lst ys) → Q (.ref D) H2) : CompG (Itr lo n) (tCutT tc) (tCutE te) c H Q D := by
  refine ⟨fun i m H => i + m = n ∧ ∃ ys : List V, ys.length ≤ i ∧ Pv i ys H ∧ H D = some (.lst ys), ⟨n, by omega, [], Nat.le_refl _, h0, hD⟩, fun i m H2 ⟨hm, ys, hl, hp, hd⟩ => ?_⟩
  by_cases hi : i = n
  · subst hi
    exact .inl ⟨Nat.le_refl _, fin ys H2 hp hd⟩
  · refine .inr ⟨show i < n by omega, fun x H3 hy => ?_⟩
    obtain ⟨rfl, rfl⟩ := hy
    refine ⟨_, turn i ys H3 (by omega) hl hp hd, fun b H4 h4 => ?_⟩
    cases b with
    | true =>
      rw [if_pos rfl] at h4 ⊢
      exact ⟨_, h4, fun y H5 ⟨hd5, hp5⟩ => ⟨ys, hd5, small1000 (by omega), m - 1, by omega, by omega, ys ++ [y], by rw [List.length_append, List.length_singleton]; omega, hp5, upd_same⟩⟩
    | false =>
      rw [if_neg Bool.false_ne_true] at h4 ⊢
      exact ⟨m - 1, by omega, by omega, ys, by omega, h4.2, h4.1⟩
def mineF (hd : Int → Option Int) (m : Nat) : List (Int × Int) := (List.range m).filterMap fun b : Nat => (hd (b : Int)).map fun p => (p, (b : Int))
theorem mineF_succ (hd : Int → Option Int) (m : Nat) : mineF hd (m + 1) = mineF hd m ++ match hd (m : Int) with | some p => [(p, (m : Int))] | none => [] := by
  unfold mineF
  rw [List.range_succ, List.filterMap_append]
  congr 1
  cases h : hd (m : Int) <;> simp [h]
theorem mem_mineF {hd : Int → Option Int} {m : Nat} {p b : Int} : (p, b) ∈ mineF hd m ↔ 0 ≤ b ∧ b < (m : Int) ∧ hd b = some p := by
  unfold mineF
  rw [List.mem_filterMap]
  constructor
  · rintro ⟨k, hk, e⟩
    cases h : hd (k : Int) with
    | none => rw [h] at e; cases e
    | some q =>
      rw [h] at e
      have e : (q, (k : Int)) = (p, b) := Option.some.inj e
      cases e
      have := List.mem_range.mp hk
      exact ⟨by omega, by omega, h⟩
  · rintro ⟨h0, h1, h⟩
    refine ⟨b.toNat, List.mem_range.mpr (by omega), ?_⟩
    rw [show ((b.toNat : Nat) : Int) = b by omega, h]
    rfl
theorem mineF_nodup (hd : Int → Option Int) : ∀ m, (mineF hd m).Nodup
  | 0 => List.nodup_nil
  | m + 1 => by
    rw [mineF_succ]
    cases h : hd (m : Int) with
    | none => simpa using mineF_nodup hd m
    | some p =>
      refine nodup_snoc (mineF_nodup hd m) fun z => ?_
      have := (mem_mineF.mp z).2.1
      omega
theorem mineF_len (hd : Int → Option Int) (m : Nat) : (mineF hd m).length ≤ m := by
  unfold mineF
  exact Nat.le_trans (List.length_filterMap_le _ _) (by rw [List.length_range]; exact Nat.le_refl _)
/-- [(has[k], k) for k in range(m) if has[k] is not None] -/
theorem comp_mine {lo : Int} {m : Nat} {tc : TT} {te : TE} {c : St} {H : Hp} {Q : VK} {D : Addr} (hlo : lo = 0) (hd : Int → Option Int) (hD : H D = none) (hn : m ≤ 1000)
    (htc : ∀ (i : Nat) H2 (R : Bool → Hp → Prop), i < m → Same H H2 → R (hd (i : Int)).isSome H2 → tc (some (.int (lo + i)) :: c) H2 R)
    (hte : ∀ (i : Nat) k H2 (R : VK), i < m → Same H H2 → hd (i : Int) = some k → (∀ t, H2 t = none → R (.ref t) (upd H2 t (.tup [.int k, .int (i : Int)]))) → te (some (.int (lo + i)) :: c) H2 R)
    (fin : ∀ H', Same H H' → PrsAt H' D (mineF hd m) → Q (.ref D) H') : CompG (Itr lo m) (tCutT tc) (tCutE te) c (upd H D (.lst [])) Q D := by
  refine comp_rangeT (fun i ys H' => ∃ ts : List Addr, ys = ts.map V.ref ∧ Same H H' ∧ ts.length = (mineF hd i).length ∧ ∀ (j : Nat) t p, ts[j]? = some t → (mineF hd i)[j]? = some p → H' t = some (.tup [.int p.1, .int p.2])) upd_same ⟨[], rfl, same_new hD _, rfl, fun j t p e => by cases e⟩ hn ?_ ?_
  · rintro i ys H2 hi hl ⟨ts, rfl, s', hlen, hrow⟩ hd2
    refine htc i H2 _ hi s' ?_
    have hP : PrsN H2 D ts (mineF hd i) := ⟨hd2, hlen, hrow⟩
    cases h : hd (i : Int) with
    | none =>
      refine iteF ⟨hd2, ts, rfl, s', ?_⟩
      rw [mineF_succ, h, List.append_nil]
      exact ⟨hlen, hrow⟩
    | some k =>
      refine iteT (hte i k H2 _ hi s' h fun t ht => ?_)
      have hDt : D ≠ t := ne_of_none hd2 ht
      have st := same_new ht (.tup [V.int k, V.int (i : Int)])
      have R3 := (hP.same st).snoc (t := t) (p := (k, (i : Int))) upd_same
      refine ⟨by rw [upd_ne hDt]; exact hd2, ts ++ [t], by rw [List.map_append]; rfl, (s'.trans st).upd hD _, ?_⟩
      rw [mineF_succ, h]
      exact ⟨R3.len, R3.row⟩
  · rintro ys H2 ⟨ts, rfl, s', hlen, hrow⟩ hd2
    exact fin H2 s' ⟨ts, hd2, hlen, hrow⟩
/-! ### as glad -/
theorem had_iff {hd : Int → Option Int} {prs : List (Int × Int)} {n : Nat} (h : ∀ p b, (p, b) ∈ prs ↔ hd b = some p) (d1 : (prs.map (·.1)).Nodup) (rg : ∀ pr ∈ prs, 0 ≤ pr.1 ∧ pr.1 < (n : Int)) {p u : Int} (p0 : 0 ≤ p) :
    (mateF 0 n prs).getD p.toNat none = some u ↔ hd u = some p := by
  constructor
  · intro e
    obtain ⟨pr, hp, k1, k2⟩ := mateF_in e
    have k1 : pr.1.toNat = p.toNat := k1
    have k2 : pr.2 = u := k2
    have r := rg pr hp
    have e1 : pr.1 = p := by omega
    rw [← e1, ← k2]
    exact (h _ _).mp hp
  · intro e
    have hm := (h p u).mpr e
    exact mateF_get (sd := 0) (pr := (p, u)) d1 (fun q hq => (rg q hq).1) hm (rg _ hm).2
section
variable {ps bs : List (List Int)} {nx nx' nx4 : Int → Nat} {hd hd' hd4 : Int → Option Int} {prs : List (Int × Int)}
theorem glad_other (op : WOk ps bs.length) (ob : WOk bs ps.length) (G : GS.Good (gP ps) (gP bs) nx hd) (D : GS.Done (gP ps) nx hd) (G' : GS.Good (gP bs) (gP ps) nx' hd') (D' : GS.Done (gP bs) nx' hd') {p : Int} (p0 : 0 ≤ p) :
    ((∀ u, hd u ≠ some p) ∧ hd' p = none) ∨ ∃ u v, hd u = some p ∧ hd' p = some v ∧ u ∈ rw ps p ∧ v ∈ rw ps p ∧ (rw ps p).idxOf u ≤ (rw ps p).idxOf v := by
  have S := G.stable (gP_nd op) D
  have S' : GS.Stable (gP ps) (gP bs) fun p b => hd' p = some b := (G'.stable (gP_nd ob) D').swap
  cases h : hd' p with
  | some v =>
    obtain ⟨u, hu, hle⟩ := G.glad (gP_nd op) D S' h
    have m1 := (S.suit hu).1
    have m2 := (S'.suit h).1
    rw [gP_of p0] at m1 m2 hle
    exact .inr ⟨u, v, hu, rfl, m1, m2, hle⟩
  | none =>
    refine .inl ⟨fun u hu => ?_, rfl⟩
    obtain ⟨c, hc⟩ := GS.alone (R := fun p b => hd b = some p) (R' := fun p b => hd' p = some b) (A := (List.range ps.length).map fun i : Nat => (i : Int)) (GS.nodup_map_on List.nodup_range fun x _ y _ e => by omega)
      (fun p b r => by
        obtain ⟨⟨h0, h1⟩, _⟩ := gP_mem op (S.suit r).1
        exact List.mem_map.mpr ⟨p.toNat, List.mem_range.mpr (by omega), by omega⟩)
      (fun p b r => by
        obtain ⟨⟨h0, h1⟩, _⟩ := gP_mem op (S'.suit r).1
        exact List.mem_map.mpr ⟨p.toNat, List.mem_range.mpr (by omega), by omega⟩)
      (fun p p' b r r' => S.eno r r') (fun p b b' r r' => S'.one r r')
      (fun p b r => by
        obtain ⟨c, hc, _⟩ := G.glad (gP_nd op) D S' r
        exact ⟨c, hc⟩)
      (fun p b r => by
        obtain ⟨c, hc, _⟩ := G'.glad (gP_nd ob) D' S.swap r
        exact ⟨c, hc⟩) hu
    rw [h] at hc
    cases hc
/-- than by the other side's asking -/
theorem glad_a (op : WOk ps bs.length) (ob : WOk bs ps.length) (G : GS.Good (gP ps) (gP bs) nx hd) (D : GS.Done (gP ps) nx hd) (R : PrOf hd prs) (G' : GS.Good (gP bs) (gP ps) nx' hd') (D' : GS.Done (gP bs) nx' hd') (k : Int) (k0 : 0 ≤ k) (k1 : k < (ps.length : Int)) :
    ((mateF 0 ps.length prs).getD k.toNat none = none ∧ (fnL ps.length hd').getD k.toNat none = none) ∨ ∃ u v, (mateF 0 ps.length prs).getD k.toNat none = some u ∧ (fnL ps.length hd').getD k.toNat none = some v ∧ u ∈ rw ps k ∧ v ∈ rw ps k ∧ (rw ps k).idxOf u ≤ (rw ps k).idxOf v := by
  have O := R.pok G op
  rw [fnL_getD hd' k0 k1]
  rcases glad_other op ob G D G' D' k0 with ⟨h1, h2⟩ | ⟨u, v, h1, h2, r⟩
  · refine .inl ⟨?_, h2⟩
    cases e : (mateF 0 ps.length prs).getD k.toNat none with
    | none => rfl
    | some u => exact absurd ((had_iff R.iff O.d1 O.r1 k0).mp e) (h1 u)
  · exact .inr ⟨u, v, (had_iff R.iff O.d1 O.r1 k0).mpr h1, h2, r⟩
/-- than by the own side's asking in rounds -/
theorem glad_b (op : WOk ps bs.length) (G : GS.Good (gP ps) (gP bs) nx hd) (D : GS.Done (gP ps) nx hd) (R : PrOf hd prs) (G4 : GS.Good (gP ps) (gP bs) nx4 hd4) (D4 : GS.Done (gP ps) nx4 hd4) (k : Int) (k0 : 0 ≤ k) (k1 : k < (ps.length : Int)) :
    ((mateF 0 ps.length prs).getD k.toNat none = none ∧ (mateF 0 ps.length (mineF hd4 bs.length)).getD k.toNat none = none) ∨ ∃ u v, (mateF 0 ps.length prs).getD k.toNat none = some u ∧ (mateF 0 ps.length (mineF hd4 bs.length)).getD k.toNat none = some v ∧ u ∈ rw ps k ∧ v ∈ rw ps k ∧ (rw ps k).idxOf u ≤ (rw ps k).idxOf v := by
  have O := R.pok G op
  have e := (GS.same (gP_nd op) G D G4 D4).1
  subst e
  have S := G.stable (gP_nd op) D
  have hin : ∀ p b, hd b = some p → ((0 ≤ p ∧ p < (ps.length : Int)) ∧ 0 ≤ b ∧ b < (bs.length : Int)) := fun p b h => gP_mem op (S.suit h).1
  have im : ∀ p b, (p, b) ∈ mineF hd bs.length ↔ hd b = some p := fun p b => by
    rw [mem_mineF]
    exact ⟨fun h => h.2.2, fun h => ⟨(hin p b h).2.1, (hin p b h).2.2, h⟩⟩
  have dm : ((mineF hd bs.length).map (·.1)).Nodup := GS.nodup_map_on (mineF_nodup hd _) fun x hx y hy e => by
    have e1 := (im x.1 x.2).mp hx
    have e2 := (im y.1 y.2).mp hy
    rw [← e] at e2
    exact Prod.ext e (G.inj e1 e2)
  have rm : ∀ pr ∈ mineF hd bs.length, 0 ≤ pr.1 ∧ pr.1 < (ps.length : Int) := fun pr h => (hin pr.1 pr.2 ((im pr.1 pr.2).mp h)).1
  cases h : (mateF 0 ps.length prs).getD k.toNat none with
  | none =>
    refine .inl ⟨rfl, ?_⟩
    cases e : (mateF 0 ps.length (mineF hd bs.length)).getD k.toNat none with
    | none => rfl
    | some u =>
      have := (had_iff R.iff O.d1 O.r1 k0).mpr ((had_iff im dm rm k0).mp e)
      rw [h] at this
      cases this
  | some u =>
    have hu := (had_iff R.iff O.d1 O.r1 k0).mp h
    have m := (S.suit hu).1
    rw [gP_of k0] at m
    exact .inr ⟨u, u, rfl, (had_iff im dm rm k0).mpr hu, m, m, Nat.le_refl _⟩
end
end L2

set_option Elab.async false
set_option linter.all false
set_option maxRecDepth 100000
namespace L2
open PySem PySem.Spec PyProof.Rows

theorem ObjOk.here {P : Program} {w : World} {H : Hp} {h : Heap} {a : Addr} {o : HO} (x : ObjOk P w H h a o) : ∃ u, h.get? a = some u := by
  cases o with
  | lst xs => obtain ⟨_, _, _, _, e⟩ := x; exact ⟨_, e⟩
  | tup xs => obtain ⟨_, _, _, o, e, _⟩ := x; exact ⟨_, e⟩
  | dK kvs => obtain ⟨_, _, _, _, o, _, _, e, _⟩ := x; exact ⟨_, e⟩
  | dT kvs => obtain ⟨_, _, _, _, o, _, _, e, _⟩ := x; exact ⟨_, e⟩
  | set S n => obtain ⟨o, _, _, _, e, _⟩ := x; exact ⟨_, e⟩
  | ins C dx fs => obtain ⟨_, _, _, e, _⟩ := x; exact ⟨_, e⟩
  | own y => exact x
  | xd fs => obtain ⟨_, ⟨_, _, _, e, _⟩, _⟩ := x; exact ⟨_, e⟩
  | rng lo hi => obtain ⟨_, _, _, e⟩ := x; exact ⟨_, e⟩
  | frz ob u => obtain ⟨e, _⟩ := x; exact ⟨_, e⟩
  | tbl ps => exact ⟨_, x⟩
  | met f y => exact ⟨_, x⟩
  | ext φ => exact x.2.1

/-- an exception that has left the callee: B holds all that was there but the frames -/
def CXE (P : Program) (w : World) : CXT := fun outer H s E e s' =>
  ∃ (ea : Addr) (cls a0 : Value) (B : Heap) (H' : Hp), e = .ref ea ∧ s'.os = s.os ∧ AllBare s'.gens ∧ Un (frs outer) [] H H' s.heap s'.heap ∧ HOk P w H' B ∧
    (∀ b o, s.heap.get? b = some o → H b = none → b ∉ frs outer → B.get? b = some o) ∧ (∀ b o, s.heap.get? b = some o → b ∉ frs outer → ∃ o', B.get? b = some o') ∧
    Heap.FlyingW B outer ea cls a0 s'.heap ∧ E cls none H'

/-- a body from which exceptions leave as CXE says -/
structure Lv (X : Cx) (E : XK) : Prop where
  ex : X.ex = []
  stk : X.stack = X.env :: X.outer
  fr : X.env.frame = some X.env.locals
  xe : X.xe = fun e s' => wpAny (model X.prog X.w) X.A (leaving X.env e) (fun _ s'' => CXE X.prog X.w X.outer X.H₀ X.s₀ E e s'') (fun e' s'' => CXE X.prog X.w X.outer X.H₀ X.s₀ E e' s'') s'

theorem lv_of {P : Program} {w : World} {K : PySem.W.Frag} {mg : Str → Option Value} {base : Heap} {N : List Str} {qual : Str} {scope : Scope} {f : Addr} {cd : Value} {A : Around} {outer : List Env} {s : Shared} {H : Hp} {E : XK} :
    Lv (cxOf (CXE P w) P w K mg base N qual scope f cd A outer s H E) E := ⟨rfl, rfl, rfl, rfl⟩

section
variable {X : Cx} {E : XK} {pins : List (Addr × Obj)} {σ : St} {H : Hp} {s s1 : Shared}

theorem Lv.frs_mem (L : Lv X E) {b : Addr} (hb : b ∈ frs X.stack) : b = X.env.locals ∨ b ∈ X.fs := by
  rw [L.stk] at hb
  unfold frs at hb
  rw [List.filterMap_cons, L.fr] at hb
  exact List.mem_cons.mp hb

theorem Inv.below (I : Inv X pins σ H s) (L : Lv X E) {b : Addr} {o : Obj} (e : X.s₀.heap.get? b = some o) (n : b ∉ X.fs) : b ∉ frs X.stack := fun hb => by
  rcases L.frs_mem hb with z | z
  · exact absurd (Nat.lt_of_lt_of_le (Heap.lt_size e) I.ok.above) (by rw [z]; exact Nat.lt_irrefl _)
  · exact n z

theorem Inv.notfields (I : Inv X pins σ H s) {b : Addr} {o : Obj} (hb : b ∈ X.fs) (e : X.s₀.heap.get? b = some o) : ∀ vs, o.data ≠ .fields vs := by
  obtain ⟨_, o', ho', hd⟩ := I.ok.funs.mem hb
  rw [e] at ho'
  cases ho'
  exact hd

/-- at the raise -/
theorem Lv.made (L : Lv X E) {e : Addr} {cls : Value} {args : List Value} (I : Inv X pins σ H s) (hx : Heap.MadeExcOf s.heap s1.heap e cls args) (hos : s1.os = s.os) (hg : s1.gens = s.gens) (hE : E cls none H) : X.xe (.ref e) s1 := by
  rw [L.xe]
  have nox : ∀ b : Addr, b ∉ X.ex := fun b z => by rw [L.ex] at z; exact absurd z (by simp)
  have hin : ∀ env ∈ X.stack, ∀ b, env.frame = some b → b ∈ frs X.stack := fun env he b hb => List.mem_filterMap.mpr ⟨env, he, hb⟩
  have hfr : X.A.frames = some (X.env :: X.outer) := by rw [← L.stk]; exact I.ok.frames
  have hff : s.heap.FunFrames (PySem.W.hideAll s.heap (frs X.stack)) (X.env :: X.outer) := by
    have z := PySem.W.funFrames_hide I.stack hin
    rw [L.stk] at z
    rw [L.stk]
    exact z
  refine wpAny_leaves_madeW hfr L.fr (fun b o q => PySem.W.of_hideAll _ q) hff hx fun h' t x1 x2 x3 x4 => ?_
  have inB : ∀ b o, s.heap.get? b = some o → b ∉ frs X.stack → (PySem.W.hideAll s.heap (frs X.stack)).get? b = some o := fun b o q n => PySem.W.hideAll_get _ q n
  have frm : ∀ b o, X.s₀.heap.get? b = some o → X.H₀ b = none → b ∈ X.fs → ∃ sl, h'.get? b = some { o with slots := sl } := fun b o q n hb => by
    obtain ⟨sl, e1⟩ := I.base.slot b o q n hb (nox b)
    obtain ⟨sl', e2⟩ := x4 b _ (hx.keeps b _ e1) (show ∀ vs, o.data ≠ .fields vs from I.notfields hb q)
    exact ⟨sl', e2⟩
  refine ⟨e, cls, .ref t, _, H, rfl, hos.trans I.os, by rw [hg]; exact I.bare, ⟨fun b o q n hb _ => ?_, fun b o q n hb _ => frm b o q n hb, fun b o q n _ => I.base.free b o q n (nox b), fun b o q _ => ?_, I.base.tups, I.base.frzs, I.base.tbls⟩, fun a o q => ?_, fun b o q n hb => ?_, fun b o q hb => ?_, x1, hE⟩
  · exact x1.1 b o (inB b o (I.base.keep b o q n hb (nox b)) (I.below L q hb))
  · by_cases hb : b ∈ X.fs
    · obtain ⟨sl, e1⟩ := frm b o q (I.ok.frf b hb) hb
      exact ⟨_, e1⟩
    · obtain ⟨o', e1⟩ := I.base.there b o q (nox b)
      exact ⟨o', x1.1 b o' (inB b o' e1 (I.below L q hb))⟩
  · refine (I.hok a o q).stay (fun b u hb r => inB b u r fun z => ?_) (fun _ r => r) fun _ _ r => r
    have n := I.stkFree b z
    rcases hb with rfl | hb
    · rw [q] at n; cases n
    · rw [hb] at n; cases n
  · exact inB b o (I.base.keep b o q n hb (nox b)) (I.below L q hb)
  · obtain ⟨o', e1⟩ := I.base.there b o q (nox b)
    exact ⟨o', inB b o' e1 (I.below L q hb)⟩

/-- through a caller -/
theorem Lv.pass (L : Lv X E) : Passes (CXE X.prog X.w) X E := by
  intro pins σ H s e s' I hc
  obtain ⟨ea, cls, a0, B, H', rfl, os, bare, un, hok, cov, thr, fly, hE⟩ := hc
  have I' : Inv X pins σ H' s' := I.call' (ch := []) os un (hok.kept fly.1) bare (fun b z => nomatch z)
  rw [L.xe]
  have nox : ∀ b : Addr, b ∉ X.ex := fun b z => by rw [L.ex] at z; exact absurd z (by simp)
  have hfr : X.A.frames = some (X.env :: X.outer) := by rw [← L.stk]; exact I.ok.frames
  have fly' : Heap.FlyingW B (X.env :: X.outer) ea cls a0 s'.heap := by rw [← L.stk]; exact fly
  refine wpAny_leaves_onW hfr L.fr fly' fun h' x1 x2 => ?_
  have frm : ∀ b o, X.s₀.heap.get? b = some o → X.H₀ b = none → b ∈ X.fs → ∃ sl, h'.get? b = some { o with slots := sl } := fun b o q n hb => by
    obtain ⟨sl, e1⟩ := I'.base.slot b o q n hb (nox b)
    obtain ⟨sl', e2⟩ := x2 b _ e1 (show ∀ vs, o.data ≠ .fields vs from I.notfields hb q)
    exact ⟨sl', e2⟩
  have kp : ∀ b o, X.s₀.heap.get? b = some o → X.H₀ b = none → b ∉ X.fs → B.get? b = some o := fun b o q n hb =>
    cov b o (I.base.keep b o q n hb (nox b)) (I.base.free b o q n (nox b)) (I.below L q hb)
  have th : ∀ b o, X.s₀.heap.get? b = some o → b ∉ X.fs → ∃ o', B.get? b = some o' := fun b o q hb => by
    obtain ⟨o', e1⟩ := I.base.there b o q (nox b)
    exact thr b o' e1 (I.below L q hb)
  refine ⟨ea, cls, a0, B, H', rfl, os.trans I.os, bare, ⟨fun b o q n hb _ => x1.1 b o (kp b o q n hb), fun b o q n hb _ => frm b o q n hb, fun b o q n _ => I'.base.free b o q n (nox b), fun b o q _ => ?_, I'.base.tups, I'.base.frzs, I'.base.tbls⟩, hok, kp, th, x1, hE⟩
  by_cases hb : b ∈ X.fs
  · obtain ⟨sl, e1⟩ := frm b o q (I.ok.frf b hb) hb
    exact ⟨_, e1⟩
  · obtain ⟨o', e1⟩ := th b o q hb
    exact ⟨o', x1.1 b o' e1⟩

theorem Lv.own (L : Lv X E) : PassesOwn (model X.prog X.w) X.A X.env X.xe := by
  rw [L.xe]
  exact PassesOwn.leaving
end

/-! ### raise -/
/-- the names that a namespace binds are finitely many: what the module's facts lack for the library's reading of the top -/
theorem Mod.top {K : PySem.W.Frag} {mg : Str → Option Value} {base : Heap} (M : Mod K mg base) (p : Program) : ∃ (l : List Str) (mb : Str → Option Value), PySem.W.TopRead p l mg mb base := by
  obtain ⟨mb, hb, hbb⟩ := M.blt
  obtain ⟨o, es, ep, ho, hd, hk, hf⟩ := id M.glob
  refine ⟨es.toList.filterMap fun e => match e.key with | .str y _ => some y | _ => none, mb, M.glob, hb, M.nolimit, hbb, fun x _ hx _ _ _ => ?_⟩
  rw [← hf]
  have none_ : es.toList.find? (·.key.isStr x) = none := by
    refine List.find?_eq_none.mpr fun e he hs => hx (List.mem_filterMap.mpr ⟨e, he, ?_⟩)
    cases ek : e.key with
    | str y u =>
      rw [ek] at hs
      have z : y = x := by simpa [Value.isStr] using hs
      rw [z]
    | _ => rw [ek] at hs; simp [Value.isStr] at hs
  unfold nsFind findBy
  rw [← Array.find?_toList, none_]
  rfl
/-- an error class of the text's own -/
structure OwnX (K : PySem.W.Frag) (mg : Str → Option Value) (x : Str) (C : Addr) : Prop where
  bound : mg x = some (.ref C)
  named : PySem.W.nsIn K mainGlobals x = some (some (.ref C))
  exc : PySem.W.excIn K C [.type "ValueError", .type "Exception", .type "BaseException", .type "object"] "ValueError.__new__" = true
theorem OwnX.cls {K : PySem.W.Frag} {mg : Str → Option Value} {x : Str} {C : Addr} {h : Heap} (o : OwnX K mg x C) (M : Mod K mg h) : OwnCls x C [.type "ValueError", .type "Exception", .type "BaseException", .type "object"] "ValueError.__new__" mg h := by
  obtain ⟨l, mb, T⟩ := M.top default
  exact PySem.W.own_of_in M.kin T o.named o.exc

def tRaise (C : Addr) (E : XK) (t : TA) : TS := fun _ σ H => t σ H fun vs H1 => vs.length ≤ sizeLine ∧ E (.ref C) none H1
theorem ps_raise {X : Cx} {E : XK} {x : Str} {C : Addr} {np cpos pos : Pos} {e₀ : Expr} {rest : List Expr} {t : TA} (L : Lv X E) (hc : X.calm = true) (o : OwnX X.K X.mg x C) (hg : Gl X x) (ha : PA X (e₀ :: rest) t)
    (hd : (x == ("__debug__" : Str)) = false := by decide) (he : starEach (e₀ :: rest) X.env = (false, eval e₀ X.env) :: starEach rest X.env := by rfl) (hpl : (backTo cpos (starEach rest X.env)).any (·.1) = false := by rfl) :
    PS X (.Raise (some (.Call (.Name x np) (e₀ :: rest) [] cpos)) none pos) (tRaise C E t) := by
  intro pins s σ H D I h
  obtain ⟨tl, N, nm, q, bs, hdct, sn, sub, ab, col, dd, k0, k1, k2, k3, k5, mN, hC, hN, hni, T⟩ := (o.cls I.ok.mod).obj
  refine wpAny_Raise_call_subT (C := C) (nm := nm) (q := q) (N := N) (bs := bs) (bm := tl) (hdct := hdct) (sn := sn) (sub := sub) (ab := ab) (col := col) (dd := dd) (k0 := k0) (k1 := k1) (k2 := k2) (k3 := k3) (k5 := k5)
    PySem.F.excBase_ValueError (mN := mN) (T.hasType PySem.F.excBase_ValueError.hasBase) (I.ok.hd hc) (by rw [he]; show (false || (backTo cpos (starEach rest X.env)).any (·.1)) = false; rw [hpl]; rfl) hni (ld_glob I hg o.bound ⟨rfl, ?_⟩ hd)
  have ha' := ha cpos pins s σ H _ I h
  rw [he] at ha' ⊢
  refine Calls.evalArgs_plain (thn ha' fun us s₂ ⟨vs, H1, I1, r, hl, hE⟩ => ⟨rfl, by rw [← r.length]; exact hl, I1.bk _ _ hC, hN.keeps I1.bk, T.keeps I1.bk, fun h' e hm => ?_⟩)
  exact L.made (s1 := { s₂ with heap := h' }) I1 hm rfl rfl hE
theorem ps_raise0 {X : Cx} {E : XK} {x : Str} {C : Addr} {np cpos pos : Pos} (L : Lv X E) (hc : X.calm = true) (o : OwnX X.K X.mg x C) (hg : Gl X x)
    (hd : (x == ("__debug__" : Str)) = false := by decide) :
    PS X (.Raise (some (.Call (.Name x np) [] [] cpos)) none pos) (tRaise C E tNil) := by
  intro pins s σ H D I h
  obtain ⟨tl, N, nm, q, bs, hdct, sn, sub, ab, col, dd, k0, k1, k2, k3, k5, mN, hC, hN, hni, T⟩ := (o.cls I.ok.mod).obj
  refine wpAny_Raise_call_subT (C := C) (nm := nm) (q := q) (N := N) (bs := bs) (bm := tl) (hdct := hdct) (sn := sn) (sub := sub) (ab := ab) (col := col) (dd := dd) (k0 := k0) (k1 := k1) (k2 := k2) (k3 := k3) (k5 := k5)
    PySem.F.excBase_ValueError (mN := mN) (T.hasType PySem.F.excBase_ValueError.hasBase) (I.ok.hd hc) rfl hni (ld_glob I hg o.bound ⟨rfl, ?_⟩ hd)
  exact evalArgs_empty ⟨rfl, Nat.zero_le _, I.bk _ _ hC, hN.keeps I.bk, T.keeps I.bk, fun h' e hm => L.made (s1 := { s with heap := h' }) I hm rfl rfl h.2⟩
end L2

set_option Elab.async false
set_option linter.all false
set_option maxRecDepth 100000
namespace L2
open PySem PySem.Spec PySem.W PyProof.Rows

/-- what is asked of an error class of the text's own, for isinstance -/
structure XFacts (K : Frag) (C : Addr) : Prop where
  cls : (clsIn K C).isSome = true
  ga : findIn K (.ref C) "__getattribute__" = some (some (.builtin "BaseException.__getattribute__"))
  gt : findIn K (.ref C) "__getattr__" = some none
  cl : findIn K (.ref C) "__class__" = some (some (.builtin "object.__class__"))
  mb : mroIn K C (.type "BaseException") = some true
  mo : mroIn K C (.type "object") = some true

section
variable {prog : Program} {w : World} {A : Around} {E : Value → Shared → Prop} {K : Frag} {h : Heap} {g : Array GenState} {d : Drawn} {t : Nat} {os : OsState} {x C : Addr} {ox : Obj}

theorem xc_get {tp : Value} {R : Result → Shared → Prop} (Y : XFacts K C) (X : K.In h) (hx : h.get? x = some ox) (hc : ox.cls = .ref C) (hq : R (.ok (.ret (.ref C))) ⟨h, g, d, t, os⟩) :
    codeAny (model prog w) A (.call (.builtin "getset_descriptor.__get__") ⟨[.builtin "object.__class__", .ref x, tp], []⟩) R ⟨h, g, d, t, os⟩ := by
  have hT5 : (⟨h, g, d, t, os⟩ : Shared).TypeIs (.builtin "object.__class__") "getset_descriptor" := F.typeOf_object_class
  have L1 : Looks (model prog w) h (isSubtype (.ref C) (.type (".".intercalate ("object.__class__".cutAt '.').dropLast))) true := by
    rw [F.owner_object_class]; exact looks_mroIn (M := model prog w) X Y.mo
  refine codeAny_call_builtin F.slot_gs_get.plain F.entry_gs_get (F.slot_gs_get.check _ _ _ _ _ _ _ _ hT5 (F.args_gs_get _ _ _) ?_)
  repeat (any_goals (first | assumption | (with_reducible refine wpAny_loadPart_at hx ?_; rw [hc]) | (with_reducible refine L1.at ?_) | wp_step))
  refine ⟨Code.quiet_builtin _ (by decide +kernel), codeAny_builtin F.entry_object_class ?_⟩
  repeat (any_goals (first | assumption | (with_reducible refine wpAny_loadPart_at hx ?_; rw [hc]) | wp_step))

theorem xc_entry {tk : Tok} {Q : PySem.Fin → Shared → Prop} (Y : XFacts K C) (X : K.In h) (hx : h.get? x = some ox) (hc : ox.cls = .ref C) (hq : Q (.done (.ret (.ref C))) ⟨h, g, d, t, os⟩) :
    wpAny (model prog w) A (Builtin.«object.__getattribute__» ⟨[.ref x, .str "__class__" tk], []⟩) Q E ⟨h, g, d, t, os⟩ := by
  have L4 := looks_findIn (M := model prog w) X Y.cl
  have hT5 : (⟨h, g, d, t, os⟩ : Shared).TypeIs (.builtin "object.__class__") "getset_descriptor" := F.typeOf_object_class
  have f5 := F.typeOf_object_class
  have f6 := F.slot_gs_get.lookup
  have f7 := F.slot_gs_set.lookup
  repeat (any_goals (first | assumption | (with_reducible refine wpAny_loadPart_at hx ?_; rw [hc]) | (with_reducible refine L4.at ?_) | wp_step))
  refine xc_get Y X hx hc ?_
  repeat (any_goals (first | assumption | wp_step))

theorem xc_check {M : Model} {nameV : Value} {Q : Unit → Shared → Prop} (Y : XFacts K C) (X : K.In h) (hx : h.get? x = some ox) (hc : ox.cls = .ref C) (hq : Q () ⟨h, g, d, t, os⟩) :
    wpAny M A (checkBuiltinCall "BaseException.__getattribute__" ⟨[.ref x, nameV], []⟩) Q E ⟨h, g, d, t, os⟩ := by
  have hk : builtinKind "BaseException.__getattribute__" = some .slot := by decide +kernel
  have hsplit : splitId "BaseException.__getattribute__" = some ("BaseException", "__getattribute__") := by decide +kernel
  have L1 := looks_mroIn (M := M) X Y.mb
  have ha := F.args_bexc_ga (.ref x) nameV
  simp only [checkBuiltinCall, hk, hsplit]
  refine wpAny_bind ?_
  unfold isInstance
  repeat (first | (with_reducible refine wpAny_loadPart_at hx ?_; rw [hc]) | (with_reducible refine L1.at ?_) | wp_step)
  exact hq

theorem xc_by {tk : Tok} {fill expr : Bool} {Q : Value → Shared → Prop} (Y : XFacts K C) (X : K.In h) (hx : h.get? x = some ox) (hc : ox.cls = .ref C) (hq : Q (.ref C) ⟨h, g, d, t, os⟩) :
    wpAny (model prog w) A (getAttrBy (.ref x) (.str "__class__" tk) fill expr) Q E ⟨h, g, d, t, os⟩ := by
  have f3 := F.attr_ValueError.ga.bind (.ref x)
  have hx0 : (expr && onTheHeap (Value.builtin "BaseException.__getattribute__")) = false := by cases expr <;> rfl
  have hx2 : (Value.builtin "BaseException.__getattribute__" == Value.builtin "object.__getattribute__") = false := by decide +kernel
  have hx1 : (onTheHeap (Value.ref C) && Value.builtin "BaseException.__getattribute__" == Value.builtin "object.__getattribute__") = false := by rw [hx2]; rfl
  have L1 := looks_findIn (M := model prog w) X Y.ga
  have L2 := looks_findIn (M := model prog w) X Y.gt
  repeat (any_goals (first | assumption | (with_reducible refine wpAny_loadPart_at hx ?_; rw [hc]) | (with_reducible refine L1.at ?_) | (with_reducible refine L2.at ?_) | wp_step))
  refine codeAny_call_builtin F.attr_ValueError.ga.plain F.entry_bexc_ga (xc_check Y X hx hc (xc_entry Y X hx hc ?_))
  repeat (any_goals (first | assumption | wp_step))

theorem xc_attr {Q : Option Value → Shared → Prop} (Y : XFacts K C) (X : K.In h) (hx : h.get? x = some ox) (hc : ox.cls = .ref C) (hq : Q (some (.ref C)) ⟨h, g, d, t + 1, os⟩) :
    wpAny (model prog w) A (getAttr? (.ref x) "__class__") Q E ⟨h, g, d, t, os⟩ := by
  unfold getAttr? getAttrBy?
  repeat (any_goals (first | assumption | with_reducible apply xc_by Y X hx hc | wp_step))
end

/-- an exception of an own class, for isinstance -/
theorem kitx_exc {K : Frag} {x C : Addr} (Y : XFacts K C) : KitX K (.ref x) (.ref C) (fun h => ∃ o, h.get? x = some o ∧ o.cls = .ref C) where
  ty := fun M h _ p => by
    obtain ⟨o, h1, h2⟩ := p
    exact h2 ▸ (Looks.ld h1).andThen .now
  it := fun _ _ X _ => by
    obtain ⟨cd, hcD⟩ := Option.isSome_iff_exists.mp Y.cls
    unfold clsIn at hcD
    split at hcD
    · rename_i c' d' cd' sl' ho
      intro A' Q' E' s' k q
      unfold isType loadHead
      exact wpAny_bind (wpAny_loadPart (k _ _ (X _ _ ho)) (wpAny_pure q))
    · cases hcD
  ne := fun h tp dd its n sl X htp => by
    obtain ⟨cd, hcD⟩ := Option.isSome_iff_exists.mp Y.cls
    refine Bool.eq_false_iff.mpr fun q => ?_
    have e : C = tp := Value.ref.inj (beq_iff_eq.mp q)
    subst e
    unfold clsIn at hcD
    split at hcD
    · rename_i c' d' cd' sl' ho
      have z := (X _ _ ho).symm.trans htp
      cases z
    · cases hcD
  ca := fun {prog w A E Q s} X p k => by
    obtain ⟨o, h1, h2⟩ := p
    obtain ⟨hh, g, d, t, os⟩ := s
    exact xc_attr Y X h1 h2 k
end L2

set_option Elab.async false
set_option linter.all false
set_option maxRecDepth 100000
namespace L2
open PySem PySem.Spec PyProof.Rows

/-- an exception of the class at C, tracked -/
def excO (C ea : Addr) : HO := .ext fun h => ∃ o, h.get? ea = some o ∧ o.cls = .ref C

def tryB (X : Cx) (Eb : XK) (pn : List (Addr × Obj)) : Cx :=
  { X with pn := pn, xe := fun e s1 => ∃ pins σ H s, Inv { X with pn := pn } pins σ H s ∧ CXE X.prog X.w X.stack H s Eb e s1 }
def tryS (X : Cx) (ea : Addr) : Cx := { X with A := X.A.mark (some (.ref ea)), calm := false, xe := fun _ _ => False }

section
variable {X : Cx} {pins : List (Addr × Obj)} {σ : St} {H : Hp} {s : Shared}
theorem Inv.re (I : Inv X pins σ H s) (pn pins' : List (Addr × Obj)) (xe : Value → Shared → Prop) (hp : ∀ p ∈ pn ++ pins', p ∈ X.pn ++ pins) : Inv { X with pn := pn, xe := xe } pins' σ H s :=
  ⟨⟨I.ok.mod, I.ok.kind, I.ok.glob, I.ok.blt, I.ok.above, I.ok.inj, I.ok.has, I.ok.cab, I.ok.hd, I.ok.frames, I.ok.stk, I.ok.exf, I.ok.bs, I.ok.bsz, I.ok.noex, I.ok.exfs, I.ok.funs, I.ok.frf⟩,
    I.os, I.bare, I.base, I.loc, I.cell, I.free, I.freeC, fun p hp' => I.pin p (hp p hp'), I.hok, I.len⟩
theorem Inv.un_re {pn pins' : List (Addr × Obj)} {xe : Value → Shared → Prop} (I : Inv { X with pn := pn, xe := xe } pins' σ H s) (hp : ∀ p ∈ X.pn ++ pins, p ∈ pn ++ pins') : Inv X pins σ H s :=
  ⟨⟨I.ok.mod, I.ok.kind, I.ok.glob, I.ok.blt, I.ok.above, I.ok.inj, I.ok.has, I.ok.cab, I.ok.hd, I.ok.frames, I.ok.stk, I.ok.exf, I.ok.bs, I.ok.bsz, I.ok.noex, I.ok.exfs, I.ok.funs, I.ok.frf⟩,
    I.os, I.bare, I.base, I.loc, I.cell, I.free, I.freeC, fun p hp' => I.pin p (hp p hp'), I.hok, I.len⟩
theorem Inv.mark (I : Inv X pins σ H s) (ea : Addr) : Inv (tryS X ea) pins σ H s :=
  ⟨⟨I.ok.mod, I.ok.kind, I.ok.glob, I.ok.blt, I.ok.above, I.ok.inj, I.ok.has, I.ok.cab, (fun z => nomatch z), I.ok.frames, I.ok.stk, I.ok.exf, I.ok.bs, I.ok.bsz, I.ok.noex, I.ok.exfs, I.ok.funs, I.ok.frf⟩,
    I.os, I.bare, I.base, I.loc, I.cell, I.free, I.freeC, I.pin, I.hok, I.len⟩
theorem Inv.unmark {ea : Addr} (I : Inv (tryS X ea) pins σ H s) (ok : X.Ok) : Inv X pins σ H s :=
  ⟨ok, I.os, I.bare, I.base, I.loc, I.cell, I.free, I.freeC, I.pin, I.hok, I.len⟩

theorem tryB_pass {Eb : XK} {pn : List (Addr × Obj)} : Passes (CXE X.prog X.w) (tryB X Eb pn) Eb := fun pins σ H s e s' I hc =>
  ⟨pins, σ, H, s, Inv.re (X := tryB X Eb pn) I pn pins X.xe (fun _ z => z), hc⟩

/-- the name behind `as` goes -/
theorem goes {M : Model} {A : Around} {E : Value → Shared → Prop} {i : Nat} {x : Str} {pos : Pos} {Q : Unit → Shared → Prop} (I : Inv X pins σ H s) (hN : X.N.Nodup) (hi : X.N[i]? = some x) (hk : X.env.scope.names.lookup x = some .local)
    (h : ∀ s', Inv X pins (σ.set i none) H s' → Q () s') : wpAny M A (do bindName X.env x .none; unbindBehindTheSuite X.env x pos) Q E s := by
  obtain ⟨m, hn, hl⟩ := id I.loc
  have hcls : (X.env.scope.kind == .class || (X.env.scope.kind == .module && X.env.locals != X.env.globals)) = false := by rw [I.ok.kind]; rfl
  have hiσ : i < σ.length := by rw [I.len]; exact (List.getElem?_eq_some_iff.mp hi).1
  have cne := I.cne
  obtain ⟨oL, _, _, hoL, _⟩ := id hn
  refine wpAny_nameGoes_keeps hk hn hcls fun h' v hn' hs => h _ ?_
  have tracked : HOk X.prog X.w H h' := fun b ob e => by
    refine (I.hok b ob e).stay (fun c w' hc q => (hs.2 c ?_).trans q) (fun _ q => q) fun _ _ q => q
    rintro rfl
    have hfree := I.free
    rcases hc with hc | hc
    · rw [← hc, hfree] at e; cases e
    · rw [hfree] at hc; cases hc
  refine ⟨I.ok, I.os, I.bare, ⟨fun b o e n hb hx => ?_, fun b o e n hb hx => ?_, I.base.free, fun b o e hx => ?_, I.base.tups, I.base.frzs, I.base.tbls⟩, ⟨_, hn', fun j y v' e1 e2 e3 => ?_⟩, fun y c e => ?_, I.free, I.freeC, fun p hp => ?_, tracked, by simpa using I.len⟩
  · exact (hs.2 b (Nat.ne_of_lt (Nat.lt_of_lt_of_le (Heap.lt_size e) I.ok.above))).trans (I.base.keep b o e n hb hx)
  · obtain ⟨sl, e1⟩ := I.base.slot b o e n hb hx
    exact ⟨sl, (hs.2 b (Nat.ne_of_lt (Nat.lt_of_lt_of_le (Heap.lt_size e) I.ok.above))).trans e1⟩
  · obtain ⟨o', e1⟩ := I.base.there b o e hx
    exact ⟨o', (hs.2 b (Nat.ne_of_lt (Nat.lt_of_lt_of_le (Heap.lt_size e) I.ok.above))).trans e1⟩
  · by_cases hj : j = i
    · subst hj
      rw [List.getElem?_set_self hiσ] at e2
      cases e2
    · rw [List.getElem?_set_ne (Ne.symm hj)] at e2
      obtain ⟨u', r', q⟩ := hl j y v' e1 e2 e3
      refine ⟨u', r', ?_⟩
      rcases q with ⟨k, e⟩ | ⟨k, c, e, z⟩
      · refine .inl ⟨k, ?_⟩
        have : y ≠ x := fun e => hj (nodup_ix hN e1 (e ▸ hi))
        simp [this, e]
      · exact .inr ⟨k, c, e, z.sameBut hs (cne y c e)⟩
  · obtain ⟨w', z⟩ := I.cell y c e
    exact ⟨w', z.sameBut hs (cne y c e)⟩
  · obtain ⟨e, n, ne, nf, d⟩ := I.pin p hp
    exact ⟨(hs.2 p.1 ne).trans e, n, ne, nf, d⟩
end

/-- try: .. except c as x: .. -/
def tTryAs (K : PySem.W.Frag) (n i : Nat) (c : Value) (Eb : XK) (tb ts : TS) : TS := fun D σ H => tb D σ H ∧
  ∀ cls H', Eb cls none H' → ∃ C, cls = .ref C ∧ PySem.W.exmOne K cls c = some true ∧ ∀ ea, H' ea = none →
    ts { nx := fun σ' H'' => D.nx (σ'.set i none) H'', rt := D.rt, bk := fun σ' H'' => D.bk (σ'.set i none) H'', ct := fun σ' H'' => D.ct (σ'.set i none) H'' } ((List.replicate n none).set i (some (.ref ea))) (upd H' ea (excO C ea))

theorem ps_tryAs {X : Cx} {body : List Stmt} {b₀ : Stmt} {suite : List Stmt} {x n : Str} {i : Nat} {c : Value} {np hpos pos : Pos} {Eb : XK} {tb ts : TS}
    (nd : X.N.Nodup) (hi : X.N[i]? = some n) (hl : X.env.scope.names.lookup n = some .local) (L : X.stack = X.env :: X.outer) (fr : X.env.frame = some X.env.locals) (hg : Gl X x) (hm : X.mg x = some c)
    (hb : ∀ pn, PSs (tryB X Eb pn) body tb) (hs : ∀ ea, PSs (tryS X ea) (b₀ :: suite) ts) (hd : (x == ("__debug__" : Str)) = false := by decide) :
    PS X (.Try body [.ExceptHandler (some (.Name x np)) (some n) (b₀ :: suite) hpos] [] [] pos) (tTryAs X.K X.N.length i c Eb tb ts) := by
  intro pins s σ H D I h
  obtain ⟨hb1, hx⟩ := h
  refine wpAny_Try_except ?_
  refine wpAny_mono (hb (X.pn ++ pins) [] s σ H D (I.re _ [] _ (fun p z => by simpa using z)) hb1) (fun f s₁ q => ?_) (fun e s₁ q => ?_)
  · have back : ∀ {σ' : St} {H' : Hp}, Inv (tryB X Eb (X.pn ++ pins)) [] σ' H' s₁ → Inv X pins σ' H' s₁ := fun {σ' H'} J => Inv.un_re J (fun p z => by simpa using z)
    cases f with
    | next => obtain ⟨σ', H', J, q⟩ := q; exact wpAny_execs_nil ⟨σ', H', back J, q⟩
    | brk => obtain ⟨σ', H', J, q⟩ := q; exact ⟨σ', H', back J, q⟩
    | cont => obtain ⟨σ', H', J, q⟩ := q; exact ⟨σ', H', back J, q⟩
    | ret u => obtain ⟨v, σ', H', J, r, q⟩ := q; exact ⟨v, σ', H', back J, r, q⟩
  · obtain ⟨pins1, σ1, H1, s0, I1, ea, cls, a0, B, H', rfl, os, bare, un, hok, cov, thr, fly, hE⟩ := q
    obtain ⟨C, rfl, hex, hts⟩ := hx cls H' hE
    have hBe : B.get? ea = none := fly.2.1
    have hne : H' ea = none := by
      cases z : H' ea with
      | none => rfl
      | some o =>
        obtain ⟨u, e1⟩ := (hok ea o z).here
        rw [hBe] at e1; cases e1
    have st : s0.heap.FunFrames X.base X.stack := I1.stack
    have nf : ∀ b o, b ∈ frs X.stack → s0.heap.get? b = some o → ∀ vs, o.data ≠ .fields vs := fun b o hb e => by
      obtain ⟨_, o', ho', hd⟩ := st.mem hb
      rw [e] at ho'; cases ho'; exact hd
    have e0 : s0.heap.get? ea = none := by
      cases z : s0.heap.get? ea with
      | none => rfl
      | some o =>
        by_cases hb : ea ∈ frs X.stack
        · obtain ⟨sl, e1⟩ := un.slot ea o z (I1.stkFree ea hb) hb (by simp)
          obtain ⟨_, _, _, oe, vs, _, _, _, he, _, hdf, _⟩ := id fly
          rw [e1] at he; cases he
          exact absurd hdf (nf ea o hb z vs)
        · obtain ⟨o', e1⟩ := thr ea o z hb
          rw [hBe] at e1; cases e1
    have moved : ∀ h', Heap.FlyingW B (X.env :: X.outer) ea (.ref C) a0 h' → s₁.heap.UpToSlots h' → Inv X pins (List.replicate X.N.length none) (upd H' ea (excO C ea)) { s₁ with heap := h' } := fun h' fl sm => by
      have hB := fl.1
      obtain ⟨ob, hob, hcl⟩ := fl.there
      have hok1 : HOk X.prog X.w H' h' := hok.kept hB
      have hok2 : HOk X.prog X.w (upd H' ea (excO C ea)) h' := fun b u q => by
        by_cases hb : b = ea
        · subst hb
          rw [upd_same] at q; cases q
          exact ⟨⟨ob, hob, hcl⟩, ⟨ob, hob⟩, fun h1 h2 ⟨o, e1, e2⟩ k => ⟨o, k o e1, e2⟩⟩
        · rw [upd_ne hb] at q
          exact (hok1 b u q).stay (fun _ _ _ r => r) (fun c r => by rw [upd_ne (ne_of_none r hne)]; exact r) fun c xs r => by rw [upd_ne (ne_of_none r hne)]; exact r
      have sl : ∀ b o, s0.heap.get? b = some o → b ∈ frs X.stack → ∃ sl, h'.get? b = some { o with slots := sl } := fun b o e hb => by
        obtain ⟨sl, e1⟩ := un.slot b o e (I1.stkFree b hb) hb (by simp)
        obtain ⟨sl', e2⟩ := sm b _ e1 (show ∀ vs, o.data ≠ .fields vs from nf b o hb e)
        exact ⟨sl', e2⟩
      have J := I1.call' (s' := { s₁ with heap := h' }) (H' := upd H' ea (excO C ea)) (ch := []) os ⟨fun b o e n hb _ => hB b o (cov b o e n hb), fun b o e _ hb _ => sl b o e hb, fun b o e n _ => ?_, fun b o e _ => ?_, fun b xs e => ?_, fun b o u e => ?_, fun b ps e => ?_⟩ hok2 bare (fun b z => nomatch z)
      · have J' : Inv X pins σ1 (upd H' ea (excO C ea)) { s₁ with heap := h' } := Inv.un_re J (fun p z => List.mem_append_left _ z)
        exact J'.weak (by rw [List.length_replicate]; exact J'.len.symm) fun i v e => by
          rw [List.getElem?_replicate] at e
          split at e <;> cases e
      · rw [upd_ne (fun z => by rw [z, e0] at e; cases e)]
        exact un.free b o e n (by simp)
      · by_cases hb : b ∈ frs X.stack
        · obtain ⟨_, e1⟩ := sl b o e hb
          exact ⟨_, e1⟩
        · obtain ⟨o', e1⟩ := thr b o e hb
          exact ⟨o', hB b o' e1⟩
      · rw [upd_ne (ne_of_none (un.tups b xs e) hne)]; exact un.tups b xs e
      · rw [upd_ne (ne_of_none (un.frzs b o u e) hne)]; exact un.frzs b o u e
      · obtain ⟨more, e1⟩ := un.tbls b ps e
        exact ⟨more, by rw [upd_ne (ne_of_none e1 hne)]; exact e1⟩
    have fly' : Heap.FlyingW B (X.env :: X.outer) ea (.ref C) a0 s₁.heap := by
      have z := fly
      rw [L] at z
      exact z
    refine wpAny_looks_onW (by rw [← L]; exact I.ok.frames) fr fly' fun h4 held4 sm4 => ?_
    refine wpAny_landsW held4 fun h5 fly5 sm5 => ?_
    have I5 := moved h5 fly5 (sm4.trans sm5)
    refine wpAny_handleBy_cons (codeAny_handlers_test (ld_glob (X := tryS X ea) (I5.mark ea) hg hm ?_ hd)) (by intro q; cases q)
    have LT : PySem.W.Looks (model X.prog X.w) h5 (typeOf (.ref ea)) (.ref C) := by
      obtain ⟨ob, hob, hcl⟩ := fly5.there
      exact hcl ▸ (PySem.W.Looks.ld hob).andThen .now
    refine (PySem.W.exm_one (K := X.K) I5.kIn LT hex).here ?_
    refine codeAny_handlers_suite_as ?_
    refine lands_againW fly5 fun h6 fly6 sm6 => ?_
    have I6 := moved h6 fly6 ((sm4.trans sm5).trans sm6)
    refine store_ok (X := tryS X ea) (i := i) (v := .ref ea) (I6.mark ea) nd hi (.inl hl) rfl (fun s' I' => ?_) (.inr hl)
    refine wpAny_mono (hs ea pins s' _ _ _ I' (hts ea hne)) (fun f s₃ q3 => ?_) (fun _ _ z => z.elim)
    cases f with
    | next => obtain ⟨σ', H'', J, q⟩ := q3; exact goes (J.unmark I.ok) nd hi hl fun s' J' => ⟨_, _, J', q⟩
    | brk => obtain ⟨σ', H'', J, q⟩ := q3; exact goes (J.unmark I.ok) nd hi hl fun s' J' => ⟨_, _, J', q⟩
    | cont => obtain ⟨σ', H'', J, q⟩ := q3; exact goes (J.unmark I.ok) nd hi hl fun s' J' => ⟨_, _, J', q⟩
    | ret u => obtain ⟨v, σ', H'', J, r, q⟩ := q3; exact goes (J.unmark I.ok) nd hi hl fun s' J' => ⟨v, _, _, J', r, q⟩

/-! ### isinstance(e, c) of a tracked exception -/
theorem call_isx {X : Cx} : CallR X (.builtin "isinstance") (fun xs H Q => ∃ ea C y u b, xs = [.ref ea, y] ∧ (∀ z, RelV y z → z = u) ∧ H ea = some (excO C ea) ∧ XFacts X.K C ∧ PySem.W.kitOne X.K (.ref C) u = some b ∧ Q (.bl b) H) := by
  intro pins s σ H xs us Q I r h
  obtain ⟨ea, C, y, c, b, rfl, hy, he, F, e, q⟩ := h
  obtain ⟨u, u', rfl, rx, rc⟩ := vals2 r
  cases (show u = Value.ref ea from rx)
  cases hy u' rc
  obtain ⟨p, _, _⟩ := (show ObjOk X.prog X.w H s.heap ea (excO C ea) from I.hok ea _ he)
  exact PySem.W.kia_one (kitx_exc F) I.kIn p e (fun z => nomatch z) fun tk => ⟨.bl b, H, I.tok tk, rfl, q⟩
end L2

set_option Elab.async false
set_option linter.all false
set_option maxRecDepth 100000
namespace L2
open PySem PySem.Spec PyProof.Rows
theorem boot_ValueError : bootBuiltins "ValueError" = some (.type "ValueError") := by decide +kernel

/-- a def that may refuse, as callers want it -/
def CalX (P : Program) (w : World) (K : PySem.W.Frag) (mg : Str → Option Value) (base : Heap) (k : Nat) (x : Str) (ps : List Str) (sp : Sp) : Prop :=
  ∃ (f : Addr) (fd : FuncData), FnOk P w K mg base (CXE P w) k f fd ps sp ∧ Binds K fd ps [] ∧ PySem.W.keepIn K (.ref f) = true ∧ mg x = some (.ref f)
theorem pe_calX {X : Cx} {E : XK} {k : Nat} {x : Str} {ps : List Str} {sp : Sp} {p pos : Pos} {e : Expr} {es : List Expr} {t : TA} (C : CalX X.prog X.w X.K X.mg X.base k x ps sp) (hr : Room k X.A) (hg : Gl X x) (hx : Passes (CXE X.prog X.w) X E) (ha : PA X (e :: es) t)
    (hd : (x == ("__debug__" : Str)) = false := by decide) (hs : starEach (e :: es) X.env = (false, eval e X.env) :: starEach es X.env := by rfl) (hpl : (backTo pos (starEach es X.env)).any (·.1) = false := by rfl) :
    PE X (.Call (.Name x p) (e :: es) [] pos) (tCall sp [] E t) := by
  obtain ⟨f, fd, G, b, kp, m⟩ := C
  exact pe_call G hr hg m kp b .nil hx ha hd hs hpl
/-- a def that may refuse, by its body -/
theorem Fun.okX {P : Program} {w : World} {K : PySem.W.Frag} {mg : Str → Option Value} {base : Heap} {x qual : Str} {st : Stmt} {f : Addr} {fd : FuncData} {N ps : List Str} {k : Nat} {sp : Sp} (F : Fun K x qual st f fd) (S : FnScope N ps (defScope st)) (len : ∀ vs H Q E, sp vs H Q E → vs.length = ps.length)
    (hbody : ∀ (cdv : Value) (A : Around) (outer : List Env) (s : Shared) (H : Hp) (vs : List V) (Q : VK) (E : XK), Room k (A.deeper (envOfC qual (defScope st) s.heap.objs.size f cdv)) → sp vs H Q E →
      ∃ t, PSs (cxOf (CXE P w) P w K mg base N qual (defScope st) f cdv A outer s H E) (defBody st) t ∧ t { nx := fun _ H' => Q .non H', rt := Q } (start N vs) H) : FnOk P w K mg base (CXE P w) (k + 1) f fd ps sp := by
  obtain ⟨oc, od, kV, doc, pm, an, cdv, ct, osl, rfl, lk, hcd⟩ := F.ex
  exact fn_of lk hcd S len fun A outer s H vs Q E hr hsp => hbody cdv A outer s H vs Q E hr hsp
/-- where it doesn't refuse -/
theorem FnOk.calm {P : Program} {w : World} {K : PySem.W.Frag} {mg : Str → Option Value} {base : Heap} {k : Nat} {f : Addr} {fd : FuncData} {ps : List Str} {sp sp' : Sp} (F : FnOk P w K mg base (CXE P w) k f fd ps sp)
    (h : ∀ vs H Q E, sp' vs H Q E → sp vs H Q E0) : FnOk P w K mg base CX0 k f fd ps sp' :=
  ⟨fun vs H Q E q => F.len vs H Q E0 (h vs H Q E q), fun A outer s H args us vs Q E hr e0 hb r q => codeAny_mono (F.run A outer s H args us vs Q E0 hr e0 hb r (h vs H Q E q)) fun res s' hq => by
    cases res with
    | ok fl => cases fl <;> exact hq
    | error e =>
      obtain ⟨_, _, _, _, _, _, _, _, _, _, _, _, _, z⟩ := hq
      exact z.elim⟩
theorem CalX.calm {P : Program} {w : World} {K : PySem.W.Frag} {mg : Str → Option Value} {base : Heap} {k : Nat} {x : Str} {ps : List Str} {sp sp' : Sp} (C : CalX P w K mg base k x ps sp) (h : ∀ vs H Q E, sp' vs H Q E → sp vs H Q E0) : Cal P w K mg base k x ps sp' := by
  obtain ⟨f, fd, F, b, kp, m⟩ := C
  exact ⟨f, fd, F.calm h, b, kp, m⟩

/-! ### what is refused -/
def badN (ls : List (List Int)) (n : Nat) : Prop := ∃ l ∈ ls, ∃ x ∈ l, x < 0 ∨ (n : Int) ≤ x
def badT (ls : List (List Int)) : Prop := ∃ l ∈ ls, ¬ l.Nodup
def noSuch (ps bs : List (List Int)) : Prop := badN ps bs.length ∨ badN bs ps.length
def twice (ps bs : List (List Int)) : Prop := badT ps ∨ badT bs
/-- refusing, else what is wanted -/
def refuse (Cn Ct : Addr) (ps bs : List (List Int)) (H : Hp) (E : XK) : Prop := ∀ H', Same H H' → (noSuch ps bs → E (.ref Cn) none H') ∧ (¬ noSuch ps bs → twice ps bs → E (.ref Ct) none H')
theorem WOk.fits {ls : List (List Int)} {n : Nat} (h : WOk ls n) : ¬ badN ls n ∧ ¬ badT ls := by
  refine ⟨?_, ?_⟩
  · rintro ⟨l, hl, x, hx, z⟩
    have := (h l hl).rg x hx
    omega
  · rintro ⟨l, hl, z⟩
    exact z (h l hl).nd
theorem WOk.of {ls : List (List Int)} {n : Nat} (h1 : ¬ badN ls n) (h2 : ¬ badT ls) (h3 : ∀ l ∈ ls, l.length ≤ 100) : WOk ls n := fun l hl =>
  ⟨Classical.byContradiction fun z => h2 ⟨l, hl, z⟩, fun x hx => Classical.byContradiction fun z => h1 ⟨l, hl, x, hx, by omega⟩, h3 l hl⟩
/-- of the laws' own: what paired and askings, loose and stays with no pairs are asked in law k02 -/
def sp_ref2 (Cn Ct : Addr) (K : PySem.W.Frag) : Sp := fun vs H Q E => ∃ (p b : Addr) (ps bs : List (List Int)), vs = [.ref p, .ref b] ∧ RowsAt H p ps ∧ RowsAt H b bs ∧ ps.length ≤ 9 ∧ bs.length ≤ 9 ∧ (∀ l ∈ ps, l.length ≤ 100) ∧ (∀ l ∈ bs, l.length ≤ 100) ∧
  refuse Cn Ct ps bs H E ∧ (¬ noSuch ps bs → ¬ twice ps bs → ∀ v H', Same H H' → Q v H')
def sp_ref3 (Cn Ct : Addr) (K : PySem.W.Frag) : Sp := fun vs H Q E => ∃ (p b a : Addr) (ps bs : List (List Int)), vs = [.ref p, .ref b, .ref a] ∧ RowsAt H p ps ∧ RowsAt H b bs ∧ PrsAt H a [] ∧ ps.length ≤ 9 ∧ bs.length ≤ 9 ∧ (∀ l ∈ ps, l.length ≤ 100) ∧ (∀ l ∈ bs, l.length ≤ 100) ∧
  refuse Cn Ct ps bs H E ∧ (¬ noSuch ps bs → ¬ twice ps bs → ∀ v H', Same H H' → Q v H')
/-- the three error classes -/
structure Errs (K : PySem.W.Frag) (mg : Str → Option Value) (Cp Cn Ct : Addr) : Prop where
  mp : mg "PairError" = some (.ref Cp)
  mn : mg "NoSuch" = some (.ref Cn)
  mt : mg "Twice" = some (.ref Ct)
  mv : mg "ValueError" = none
  fn : XFacts K Cn
  ft : XFacts K Ct
  xn : PySem.W.exmOne K (.ref Cn) (.ref Cp) = some true
  xt : PySem.W.exmOne K (.ref Ct) (.ref Cp) = some true
  nn : PySem.W.kitOne K (.ref Cn) (.ref Cn) = some true
  nt : PySem.W.kitOne K (.ref Cn) (.ref Ct) = some false
  nv : PySem.W.kitOne K (.ref Cn) (.type "ValueError") = some true
  tn : PySem.W.kitOne K (.ref Ct) (.ref Cn) = some false
  tt : PySem.W.kitOne K (.ref Ct) (.ref Ct) = some true
  tv : PySem.W.kitOne K (.ref Ct) (.type "ValueError") = some true
open Classical in
noncomputable def due (ps bs : List (List Int)) : Str := if noSuch ps bs then "no such" else if twice ps bs then "twice" else "done"
end L2
namespace L2
open PySem PySem.Spec PyProof.Rows
/-- all but b is as it was, b holds o -/
structure But (H H' : Hp) (b : Addr) (o : HO) : Prop where
  oth : ∀ x u, x ≠ b → H x = some u → H' x = some u
  at_ : H' b = some o
theorem But.upd (H : Hp) (b : Addr) (o : HO) : But H (L2.upd H b o) b o := ⟨fun x u n e => by rw [upd_ne n]; exact e, upd_same⟩
theorem RowsN.put {H H' : Hp} {a : Addr} {as : List Addr} {ls : List (List Int)} (h : RowsN H a as ls) (nd : as.Nodup) (ha : a ∉ as) {i : Nat} {b : Addr} (e : as[i]? = some b) {l : List Int} (w : But H H' b (.lst (iv l))) : RowsN H' a as (ls.set i l) := by
  have hb : b ∈ as := List.mem_of_getElem? e
  refine ⟨w.oth _ _ (fun z => ha (z ▸ hb)) h.top, by rw [List.length_set]; exact h.len, fun j c m e1 e2 => ?_⟩
  by_cases hj : j = i
  · subst hj
    rw [e] at e1
    cases e1
    have hlt : j < ls.length := by rw [← h.len]; exact (List.getElem?_eq_some_iff.mp e).1
    rw [List.getElem?_set_self hlt] at e2
    cases e2
    exact w.at_
  · rw [List.getElem?_set_ne (fun z => hj z.symm)] at e2
    exact w.oth _ _ (fun z => hj (RowsN.set.nodup_get nd (z ▸ e1) e)) (h.row j c m e1 e2)
theorem RowsN.away {H H' : Hp} {a : Addr} {as : List Addr} {ls : List (List Int)} (h : RowsN H a as ls) {b : Addr} {o : HO} (hb : b ∉ as) (ha : b ≠ a) (w : But H H' b o) : RowsN H' a as ls :=
  ⟨w.oth _ _ (Ne.symm ha) h.top, h.len, fun i c l e1 e2 => w.oth _ _ (fun z => hb (z ▸ List.mem_of_getElem? e1)) (h.row i c l e1 e2)⟩
end L2
namespace L2
open PySem PySem.Spec PyProof.Rows
theorem call_isxK {X : Cx} {K : PySem.W.Frag} (h : X.K = K) : CallR X (.builtin "isinstance") (fun xs H Q => ∃ ea C y u b, xs = [.ref ea, y] ∧ (∀ z, RelV y z → z = u) ∧ H ea = some (excO C ea) ∧ XFacts K C ∧ PySem.W.kitOne K (.ref C) u = some b ∧ Q (.bl b) H) := by
  subst h
  exact call_isx
end L2

set_option Elab.async false
set_option linter.all false
set_option maxRecDepth 100000
namespace L2
open PySem PySem.Spec PyProof.Rows
theorem pe_neg {X : Cx} {i : Int} {j pos pos'} : PE X (.UnaryOp .USub (.Constant (.int i) j pos') pos) (tC (.int (-i))) := fun pins s σ H Q I h => pe_un un_neg pe_int pins s σ H Q I ⟨i, rfl, h⟩
/-! ### how far the wishes are spoilt -/
structure S0 (ls : List (List Int)) (n : Nat) : Prop where
  ok : WOk ls n
  sh : ∀ l ∈ ls, l.length ≤ 20
structure S1 (ls : List (List Int)) (n : Nat) : Prop where
  nn : ¬ badN ls n
  tw : badT ls
  sh : ∀ l ∈ ls, l.length ≤ 30
structure S2 (ls : List (List Int)) (n : Nat) : Prop where
  no : badN ls n
  sh : ∀ l ∈ ls, l.length ≤ 40
theorem WOk.s0 {ls : List (List Int)} {n : Nat} (h : WOk ls n) (hn : n ≤ 20) : S0 ls n :=
  ⟨h, fun l hl => Nat.le_trans (len_le_of_range (h l hl).nd (h l hl).rg) hn⟩
theorem getD_mem {ls : List (List Int)} {i : Nat} (h : i < ls.length) : ls.getD i [] ∈ ls := by
  rw [List.getD_eq_getElem?_getD, List.getElem?_eq_getElem h]
  exact List.getElem_mem h
theorem mem_set_self {ls : List (List Int)} {i : Nat} (h : i < ls.length) (l : List Int) : l ∈ ls.set i l := by
  have e : (ls.set i l)[i]? = some l := List.getElem?_set_self h
  exact List.mem_of_getElem? e
theorem S0.dbl {ls : List (List Int)} {n i k : Nat} {l : List Int} {y : Int} (S : S0 ls n) (hn : 0 < n) (hi : i < ls.length) (hl : l = (if ls.getD i [] = [] then [0] else ls.getD i [])) (hy : y ∈ l) : S1 (ls.set i (l.take k ++ y :: l.drop k)) n := by
  have p := ins_perm l k y
  have rg : (∀ x ∈ l, 0 ≤ x ∧ x < (n : Int)) ∧ l.length ≤ 20 := by
    rw [hl]
    split
    · refine ⟨fun x hx => ?_, by decide⟩
      rw [List.mem_singleton.mp hx]
      omega
    · exact ⟨(S.ok _ (getD_mem hi)).rg, S.sh _ (getD_mem hi)⟩
  refine ⟨?_, ⟨_, mem_set_self hi _, fun z => ?_⟩, fun m hm => ?_⟩
  · rintro ⟨m, hm, x, hx, z⟩
    rcases List.mem_or_eq_of_mem_set hm with q | q
    · have := (S.ok m q).rg x hx
      omega
    · subst q
      rcases List.mem_cons.mp (p.mem_iff.mp hx) with q | q
      · have := rg.1 y hy
        omega
      · have := rg.1 x q
        omega
  · exact (List.nodup_cons.mp (p.nodup z)).1 hy
  · rcases List.mem_or_eq_of_mem_set hm with q | q
    · exact Nat.le_trans (S.sh m q) (by decide)
    · rw [q, p.length_eq, List.length_cons]
      have := rg.2
      omega
theorem spoil2 {ls : List (List Int)} {n i k : Nat} {x : Int} (sh : ∀ l ∈ ls, l.length ≤ 30) (hi : i < ls.length) (hx : x < 0 ∨ (n : Int) ≤ x) : S2 (ls.set i ((ls.getD i []).take k ++ x :: (ls.getD i []).drop k)) n := by
  have p := ins_perm (ls.getD i []) k x
  refine ⟨⟨_, mem_set_self hi _, x, p.mem_iff.mpr List.mem_cons_self, hx⟩, fun m hm => ?_⟩
  rcases List.mem_or_eq_of_mem_set hm with q | q
  · exact Nat.le_trans (sh m q) (by decide)
  · rw [q, p.length_eq, List.length_cons]
    have := sh _ (getD_mem hi)
    omega
/-- one side: by doubled (c), then by strange (d) -/
def Side (c d : Prop) (ls : List (List Int)) (n : Nat) : Prop := (d → S2 ls n) ∧ (¬ d → c → S1 ls n) ∧ (¬ d → ¬ c → S0 ls n)
theorem Side.sh {c d : Prop} {ls : List (List Int)} {n : Nat} (S : Side c d ls n) : ∀ l ∈ ls, l.length ≤ 40 := fun l hl => by
  by_cases hd : d
  · exact (S.1 hd).sh l hl
  · by_cases hc : c
    · exact Nat.le_trans ((S.2.1 hd hc).sh l hl) (by decide)
    · exact Nat.le_trans ((S.2.2 hd hc).sh l hl) (by decide)
theorem due_of {c1 c2 d1 d2 : Prop} [Decidable c1] [Decidable c2] [Decidable d1] [Decidable d2] {ps bs : List (List Int)} (A : Side c1 d1 ps bs.length) (B : Side c2 d2 bs ps.length) :
    due ps bs = (if d2 then "no such" else if d1 then "no such" else if c2 then "twice" else if c1 then "twice" else "done" : Str) := by
  have nb : ∀ {c d : Prop} {ls : List (List Int)} {n : Nat}, Side c d ls n → ¬ d → ¬ badN ls n := fun {c d ls n} S hd => by
    by_cases hc : c
    · exact (S.2.1 hd hc).nn
    · exact (S.2.2 hd hc).ok.fits.1
  unfold due
  by_cases h2 : d2
  · rw [if_pos h2, if_pos (show noSuch ps bs from Or.inr (B.1 h2).no)]
  rw [if_neg h2]
  by_cases h1 : d1
  · rw [if_pos h1, if_pos (show noSuch ps bs from Or.inl (A.1 h1).no)]
  rw [if_neg h1, if_neg (show ¬ noSuch ps bs from fun z => z.elim (nb A h1) (nb B h2))]
  by_cases g2 : c2
  · rw [if_pos g2, if_pos (show twice ps bs from Or.inr (B.2.1 h2 g2).tw)]
  rw [if_neg g2]
  by_cases g1 : c1
  · rw [if_pos g1, if_pos (show twice ps bs from Or.inl (A.2.1 h1 g1).tw)]
  rw [if_neg g1, if_neg (show ¬ twice ps bs from fun z => z.elim (A.2.2 h1 g1).ok.fits.2 (B.2.2 h2 g2).ok.fits.2)]
theorem odd_one {m : Nat} {k : Nat} : ∀ x ∈ [(-1 : Int), (m : Int), (m : Int) + 3, -2, -1 - (m : Int)], x < 0 ∨ (m : Int) ≤ x := fun x hx => by
  simp only [List.mem_cons, List.not_mem_nil, or_false] at hx
  omega
theorem errs_mk {K : PySem.W.Frag} {h : Heap} {mg : Str → Option Value} {Cp Cn Ct : Addr} (X : K.In h) (G : h.Ns mainGlobals mg)
    (a1 : PySem.W.nsIn K mainGlobals "PairError" = some (some (.ref Cp))) (a2 : PySem.W.nsIn K mainGlobals "NoSuch" = some (some (.ref Cn))) (a3 : PySem.W.nsIn K mainGlobals "Twice" = some (some (.ref Ct))) (a4 : PySem.W.nsIn K mainGlobals "ValueError" = some none)
    (n1 : (PySem.W.clsIn K Cn).isSome = true) (n2 : PySem.W.findIn K (.ref Cn) "__getattribute__" = some (some (.builtin "BaseException.__getattribute__"))) (n3 : PySem.W.findIn K (.ref Cn) "__getattr__" = some none) (n4 : PySem.W.findIn K (.ref Cn) "__class__" = some (some (.builtin "object.__class__"))) (n5 : PySem.W.mroIn K Cn (.type "BaseException") = some true) (n6 : PySem.W.mroIn K Cn (.type "object") = some true)
    (t1 : (PySem.W.clsIn K Ct).isSome = true) (t2 : PySem.W.findIn K (.ref Ct) "__getattribute__" = some (some (.builtin "BaseException.__getattribute__"))) (t3 : PySem.W.findIn K (.ref Ct) "__getattr__" = some none) (t4 : PySem.W.findIn K (.ref Ct) "__class__" = some (some (.builtin "object.__class__"))) (t5 : PySem.W.mroIn K Ct (.type "BaseException") = some true) (t6 : PySem.W.mroIn K Ct (.type "object") = some true)
    (x1 : PySem.W.exmOne K (.ref Cn) (.ref Cp) = some true) (x2 : PySem.W.exmOne K (.ref Ct) (.ref Cp) = some true) (k1 : PySem.W.kitOne K (.ref Cn) (.ref Cn) = some true) (k2 : PySem.W.kitOne K (.ref Cn) (.ref Ct) = some false) (k3 : PySem.W.kitOne K (.ref Cn) (.type "ValueError") = some true)
    (k4 : PySem.W.kitOne K (.ref Ct) (.ref Cn) = some false) (k5 : PySem.W.kitOne K (.ref Ct) (.ref Ct) = some true) (k6 : PySem.W.kitOne K (.ref Ct) (.type "ValueError") = some true)
    (o1 : PySem.W.excIn K Cn [.type "ValueError", .type "Exception", .type "BaseException", .type "object"] "ValueError.__new__" = true) (o2 : PySem.W.excIn K Ct [.type "ValueError", .type "Exception", .type "BaseException", .type "object"] "ValueError.__new__" = true) :
    Errs K mg Cp Cn Ct ∧ OwnX K mg "NoSuch" Cn ∧ OwnX K mg "Twice" Ct :=
  ⟨⟨PySem.W.mg_of X G a1, PySem.W.mg_of X G a2, PySem.W.mg_of X G a3, PySem.W.mg_none_of X G a4, ⟨n1, n2, n3, n4, n5, n6⟩, ⟨t1, t2, t3, t4, t5, t6⟩, x1, x2, k1, k2, k3, k4, k5, k6⟩, ⟨PySem.W.mg_of X G a2, a2, o1⟩, ⟨PySem.W.mg_of X G a3, a3, o2⟩⟩
end L2

set_option Elab.async false
set_option linter.all false
set_option maxRecDepth 100000
set_option maxHeartbeats 1000000
namespace L2
open PySem PySem.Spec PyProof.Rows
/-! ### how many different ints -/
theorem dedup_le : ∀ (ns σ : List Int), (ns.foldl step_dedup σ).length ≤ σ.length + ns.length
  | [], σ => Nat.le_refl _
  | v :: r, σ => by
    have ih := dedup_le r (step_dedup σ v)
    have : (step_dedup σ v).length ≤ σ.length + 1 := by unfold step_dedup; split <;> simp
    rw [List.foldl_cons, List.length_cons]
    omega
theorem dedup_iff : ∀ (ns σ : List Int), σ.Nodup → ((ns.foldl step_dedup σ).length = σ.length + ns.length ↔ (σ ++ ns).Nodup)
  | [], σ, h => by rw [List.append_nil]; exact ⟨fun _ => h, fun _ => rfl⟩
  | v :: r, σ, h => by
    rw [List.foldl_cons, List.length_cons]
    by_cases hv : v ∈ σ
    · have e : step_dedup σ v = σ := by unfold step_dedup; rw [if_pos (by simpa using hv)]
      rw [e]
      have := dedup_le r σ
      refine ⟨fun z => by omega, fun z => ?_⟩
      exact absurd rfl ((List.nodup_append.mp z).2.2 v hv v List.mem_cons_self)
    · have e : step_dedup σ v = σ ++ [v] := by unfold step_dedup; rw [if_neg (by simpa using hv)]
      rw [e]
      have ih := dedup_iff r (σ ++ [v]) (nodup_snoc h hv)
      rw [List.length_append, List.append_assoc] at ih
      rw [show σ.length + (r.length + 1) = σ.length + [v].length + r.length by simp; omega]
      exact ih
theorem range_getD (ns : List Int) : (List.range ns.length).map (fun i => ns.getD i 0) = ns := by
  refine List.ext_getElem? fun i => ?_
  rw [List.getElem?_map]
  by_cases hi : i < ns.length
  · rw [List.getElem?_range hi, List.getElem?_eq_getElem hi]
    show some (ns.getD i 0) = some ns[i]
    rw [List.getD_eq_getElem?_getD, List.getElem?_eq_getElem hi]
    rfl
  · rw [List.getElem?_eq_none_iff.mpr (by rw [List.length_range]; omega), List.getElem?_eq_none_iff.mpr (by omega)]
    rfl
theorem preSum_take (ns : List Int) : ∀ k, k ≤ ns.length → preSum (fun i => ns.getD i 0) k = (ns.take k).sum
  | 0, _ => rfl
  | k + 1, h => by
    rw [take_sum_succ ns k (by omega)]
    show preSum _ k + ns.getD k 0 = _
    rw [preSum_take ns k (by omega)]
section
variable {X : Cx}
/-- set(xs), a list of ints -/
theorem call_setI (hc : X.calm = true) : CallR X (.type "set") (fun xs H Q => ∃ l ns, xs = [.ref l] ∧ SqL X.K H l (iv ns) ∧ ns.length ≤ 1000 ∧ ∀ p S n, H p = none → (n = ns.length ↔ ns.Nodup) → n ≤ ns.length → Q (.ref p) (upd H p (.set S n))) := by
  intro pins s σ H xs us Q I r h
  obtain ⟨l, ns, rfl, hq, hn, q⟩ := h
  obtain ⟨u, rfl, rx⟩ := vals1 r
  cases rx
  obtain ⟨its, rv, pl, hz⟩ := I.list hq
  have hlen : its.length = ns.length := by rw [← rv.length, iv, List.length_map]
  have hf : firstMet (fun i => ns.getD i 0) its.toArray.size = ns.foldl step_dedup [] := by
    unfold firstMet
    rw [List.size_toArray, hlen, range_getD]
  refine PySem.call_set_list (ns := ns) (I.ok.hd hc) pl.isList (by simpa using intsAre_of rv) (by rw [List.size_toArray]; unfold scanBound; omega) fun h' tk hS hk => ?_
  rw [hf] at hS
  refine ⟨.ref s.heap.objs.size, _, I.laid (t' := tk) (o := .set (fun k' => (ns.foldl step_dedup []).any (· == k')) (ns.foldl step_dedup []).length) (fun b o e => hk b o (Heap.lt_size e) e) (Nat.le_refl _) hS, rfl, q _ _ _ (I.hok.fresh (Nat.le_refl _)) ?_ ?_⟩
  · have := dedup_iff ns [] List.nodup_nil
    rw [List.length_nil, Nat.zero_add, List.nil_append] at this
    exact this
  · have := dedup_le ns []
    rw [List.length_nil, Nat.zero_add] at this
    exact this
theorem call_lenS : CallR X (.builtin "len") (fun xs H Q => ∃ p S n, xs = [.ref p] ∧ H p = some (.set S n) ∧ Q (.int n) H) := by
  intro pins s σ H xs us Q I r h
  obtain ⟨p, S, n, rfl, hp, q⟩ := h
  obtain ⟨u, rfl, rx⟩ := vals1 r
  cases rx
  obtain ⟨o, es, ep, t, ho, hex, hd, _, _, hb, hf, hn⟩ : s.heap.SetOf (intKind X.prog X.w) p S n := I.hok p _ hp
  subst hn
  refine PySem.call_len_set ho hex hd hf (Int.lt_of_lt_of_le (b := (scanBound : Int)) (by omega) (by unfold scanBound; decide)) ⟨.int _, H, I.tok _, ⟨_, rfl⟩, q⟩
/-- sum(xs), a list of ints -/
theorem call_sumI (hc : X.calm = true) : CallR X (.builtin "sum") (fun xs H Q => ∃ l ns, xs = [.ref l] ∧ SqL X.K H l (iv ns) ∧ Q (.int ns.sum) H) := by
  intro pins s σ H xs us Q I r h
  obtain ⟨l, ns, rfl, hq, q⟩ := h
  obtain ⟨u, rfl, rx⟩ := vals1 r
  cases rx
  obtain ⟨its, rv, pl, hz⟩ := I.list hq
  have hlen : its.length = ns.length := by rw [← rv.length, iv, List.length_map]
  obtain ⟨ol, hol, _⟩ := id pl.isList
  have hlS : l < s.heap.objs.size := Heap.lt_size hol
  have hh : X.A.in1.handled = none := by have := I.ok.hd hc; simp [this]
  refine PySem.call_sum_walkAnyS (PySem.wpAny_pyIter_list pl.isList ?_)
  refine ⟨s.heap.objs.size, _, _, _, _, _, _, (fun i => ns.getD i 0), rfl, (Walks.list hh s.heap.objs.size l (Nat.ne_of_lt hlS) its.toArray).toS, ⟨⟨_, Heap.get?_push_size _ rfl, rfl, rfl⟩, pl.isList.push _⟩, fun b hb => ?_, fun i v hv => ?_, fun s' t' hm => ?_⟩
  · have hz2 : ({ s with heap := s.heap.push { cls := .type "list_iterator", data := .fields #[.ref l, .int 0 0] } } : Shared).heap.objs.size = s.heap.objs.size + 1 := Heap.size_push ..
    rw [hz2]
    simp only [List.mem_cons, List.not_mem_nil, or_false] at hb
    rcases hb with rfl | rfl
    · exact Nat.lt_succ_self _
    · exact Nat.lt_succ_of_lt hlS
  · exact PyProof.Rows.IntsAre.int_at (intsAre_of rv) i v (by rw [← Array.getElem?_toList] at hv; exact hv)
  · obtain ⟨h', g', d', tk', os'⟩ := s'
    have eg : g' = s.gens := hm.gens
    have ed : d' = s.drawn := hm.drawn
    have eo : os' = s.os := hm.os
    subst eg; subst ed; subst eo
    refine ⟨.int _, H, I.kept (t' := tk') (fun b o e => hm.heap b o (by simp only [List.mem_cons, List.not_mem_nil, or_false]; exact Nat.ne_of_lt (Heap.lt_size e)) (Heap.get?_push_of_some _ e)), ⟨_, rfl⟩, ?_⟩
    rw [List.size_toArray, hlen, preSum_take ns _ (Nat.le_refl _), List.take_length]
    exact q
/-! ### enumerate(list), its pairs unpacked -/
/-- two records of ours have turned, and a new object is laid -/
theorem Inv.turnedL {pins : List (Addr × Obj)} {σ : St} {H : Hp} {s : Shared} {h' : Heap} {e it a : Addr} {o : HO} {t' : Nat} (I : Inv X pins σ H s) (fe : FpOk X pins H e) (fi : FpOk X pins H it) (hp : s.heap.objs.size ≤ a)
    (k : ∀ b u, b ≠ e → b ≠ it → s.heap.get? b = some u → h'.get? b = some u) (he : ∃ u, h'.get? e = some u) (hi : ∃ u, h'.get? it = some u) (new : ObjOk X.prog X.w (upd H a o) h' a o) : Inv X pins σ (upd H a o) { s with heap := h', toks := t' } := by
  have ha : H a = none := I.hok.fresh hp
  have ne : ∀ b u, H b = some u → b ≠ e := fun b u z y => by rw [y, fe.1] at z; cases z
  have ni : ∀ b u, H b = some u → b ≠ it := fun b u z y => by rw [y, fi.1] at z; cases z
  have na : ∀ b u, H b = some u → b ≠ a := fun b u z => ne_of_none z ha
  have nch : ∀ b, b ∉ [e, it] → b ≠ e ∧ b ≠ it := fun b hb => ⟨fun z => hb (by simp [z]), fun z => hb (by simp [z])⟩
  refine I.step (g' := s.gens) (d' := s.drawn) (ch := [e, it]) (fun b hb => ?_) (fun b u _ _ hc z _ => k b u (nch b hc).1 (nch b hc).2 z) (fun b u _ _ hc z _ => ⟨u.slots, k b u (nch b hc).1 (nch b hc).2 z⟩) (fun b u _ z n => ?_)
    (fun b u hc z => ⟨u, k b u (nch b hc).1 (nch b hc).2 z⟩) (fun b xs z => by rw [upd_ne (na _ _ z)]; exact z) (fun b u xs z => by rw [upd_ne (na _ _ z)]; exact z) (fun b ps z => ⟨#[], by rw [upd_ne (na _ _ z), z]; simp⟩) (fun m hm => ?_) (fun b u z => ?_) I.bare
  · have hb : b = e ∨ b = it := by simpa using hb
    rcases hb with rfl | rfl
    · exact ⟨fe.2.2.2.1, fe.2.1, fe.2.2.2.2.1, fe.2.2.2.2.2⟩
    · exact ⟨fi.2.2.2.1, fi.2.1, fi.2.2.2.2.1, fi.2.2.2.2.2⟩
  · rw [upd_ne (Nat.ne_of_lt (Nat.lt_of_lt_of_le (Heap.lt_size z) hp))]
    exact n
  · obtain ⟨o', es, ep, ho, r⟩ := hm
    exact ⟨o', es, ep, k _ o' (Ne.symm fe.2.1) (Ne.symm fi.2.1) ho, r⟩
  · by_cases hb : b = a
    · subst hb
      rw [upd_same] at z
      cases z
      exact new
    · rw [upd_ne hb] at z
      refine (I.hok b u z).stay (fun c v hc q => ?_) (fun c q => by rw [upd_ne (na _ _ q)]; exact q) fun c xs q => by rw [upd_ne (na _ _ q)]; exact q
      rcases hc with rfl | hc
      · exact k _ v (ne _ _ z) (ni _ _ z) q
      · exact k _ v (ne _ _ hc) (ni _ _ hc) q
def Ite (K : PySem.W.Frag) (a : Addr) : It :=
  ⟨fun i H => ∃ xs x, SqL K H a xs ∧ xs[i]? = some x, fun i H x H' => ∃ p y, H p = none ∧ x = .ref p ∧ H' = upd H p (.tup [.int (i : Int), y]) ∧ ∀ xs, SqL K H a xs → xs[i]? = some y, fun i H => ∃ xs, SqL K H a xs ∧ xs.length ≤ i⟩
theorem turn_enum {P : Program} {w : World} {K : PySem.W.Frag} {elts : List Expr} {tk : Nat} {tp : Pos} (a e it : Addr) (hne : e ≠ it) : Turn P w K (.Tuple elts tk tp) (Ite K a) [e, it] e (fun i h => (∃ old, IsEnum h e it (i : Int) old) ∧ h.IsListIter it a i) where
  mem := by simp
  obj := fun i h st b hb => by
    have hb : b = e ∨ b = it := by simpa using hb
    obtain ⟨⟨old, he⟩, o, ho, c, d⟩ := st
    rcases hb with rfl | rfl
    · exact ⟨_, he, fun v z => by cases z⟩
    · exact ⟨o, ho, fun v z => by rw [d] at z; cases z⟩
  keep := fun i h h' st k => by
    obtain ⟨⟨old, he⟩, hi⟩ := st
    exact ⟨⟨old, k e (by simp) _ he⟩, hi.at fun o z => k it (by simp) o z⟩
  item := by
    intro X hP hw hK hc i pins s σ H E I hf st hg
    subst hP hw hK
    obtain ⟨xs, x, hq, hx⟩ := hg
    obtain ⟨its, rv, p, hz⟩ := I.list hq
    obtain ⟨u, hu, ru⟩ := rv.get hx
    obtain ⟨⟨old, he⟩, hi⟩ := st
    have fe := hf e (by simp)
    have fi := hf it (by simp)
    have heS : e < s.heap.objs.size := Heap.lt_size he
    refine wpAny_pyNext_enum_item he hi p.isList (x := u) (by simpa using hu) hne fun h1 heo hi1 ht1 hz1 hk1 => ?_
    refine ⟨_, rfl, wpAny_letOwnedTupleGo_enum (s := { s with heap := h1, toks := s.toks + 1 }) heo fun h2 he2 hs2 => ?_⟩
    replace hs2 : Heap.SameBut e h1 h2 := hs2
    have hi2 : h2.IsListIter it a (i + 1) := hi1.extBut hs2.extBut (Ne.symm hne)
    obtain ⟨oi, hoi, _⟩ := id hi2
    have ht2 : h2.get? s.heap.objs.size = some { cls := .type "tuple", data := .seq #[.int i s.toks, u] } := (hs2.2 _ (Nat.ne_of_gt heS)).trans ht1
    refine ⟨.ref s.heap.objs.size, upd H s.heap.objs.size (.tup [.int (i : Int), x]), I.turnedL (t' := s.toks + 1) fe fi (Nat.le_refl _) (fun b o hb1 hb2 z => (hs2.2 b hb1).trans (hk1 b o hb1 hb2 z)) ⟨_, he2⟩ ⟨_, hoi⟩ ?_, rfl, ⟨_, x, I.hok.fresh (Nat.le_refl _), rfl, rfl, fun ys hy => by rw [I.list_inj hy hq]; exact hx⟩, ⟨⟨u, ?_⟩, hi2⟩, fun b hb => ?_⟩
    · exact ⟨(by show 2 ≤ sizeLine; decide), [.int i s.toks, u], .cons ⟨_, rfl⟩ (.cons ru .nil), ⟨_, ht2, rfl, _, rfl⟩⟩
    · have : ((i + 1 : Nat) : Int) = (i : Int) + 1 := by push_cast; rfl
      rw [this]
      exact he2
    · rw [upd_ne]
      · exact (hf b hb).1
      · have hb : b = e ∨ b = it := by simpa using hb
        obtain ⟨o, ho, _⟩ := id hi
        rcases hb with rfl | rfl
        · exact Nat.ne_of_lt heS
        · exact Nat.ne_of_lt (Heap.lt_size ho)
  done := by
    intro X hP hw hK hc i pins s σ H E I hf st hg
    subst hP hw hK
    obtain ⟨xs, hq, hx⟩ := hg
    obtain ⟨its, rv, p, hz⟩ := I.list hq
    obtain ⟨⟨old, he⟩, hi⟩ := st
    obtain ⟨f0, f1, f2, f3, f4, f5⟩ := hf it (by simp)
    have hl := rv.length
    exact wpAny_pyNext_enum_end (I.ok.hd hc) he hi p.isList (by simp; omega) fun h' eb => ⟨rfl, I.turned (t' := s.toks) (fun b o hb z => eb b o hb z) f0 f1 f3 f4 f5⟩
  self := fun _ _ _ _ _ st h => wpAny_pyIter_enum st.1.choose_spec h
def iEnum (K : PySem.W.Frag) (ta : TA) : TI := fun σ H R => ta σ H fun vs H1 => ∃ a xs, vs = [.ref a] ∧ SqL K H1 a xs ∧ R (Ite K a) H1
theorem pi_enum {elts : List Expr} {tk : Nat} {tp : Pos} {a : Expr} {ta : TA} {p pos : Pos} (hg : Gl X "enumerate") (hm : X.mg "enumerate" = none) (ha : PA X [a] ta) (hs : starEach [a] X.env = [(false, eval a X.env)] := by rfl) :
    PI X (.Tuple elts tk tp) (.Call (.Name "enumerate" p) [a] [] pos) (iEnum X.K ta) := by
  intro pins s σ H R I h
  refine Call_ (ld_blt I hg hm PyProof.Rows.boot_enumerate (PyProof.Rows.callWith_type1 (thn (ha pos pins s σ H _ I h) fun us s1 ⟨vs, H1, I1, r1, q1⟩ => ?_) hs rfl))
  obtain ⟨l, xs, e, hq, q⟩ := q1
  subst e
  cases r1 with
  | cons r rr =>
    cases rr
    cases r
    obtain ⟨its, rv, pl, hz⟩ := I1.list hq
    refine call_enumerate_list pl.isList fun h' he hi hz' hk => ?_
    have I2 : Inv X pins σ H1 { s1 with heap := h' } := I1.kept (t' := s1.toks) hk
    refine wpAny_pyIter_enum (s := { s1 with heap := h' }) he ?_
    refine ⟨s1.heap.objs.size + 1, [s1.heap.objs.size + 1, s1.heap.objs.size], _, _, H1, rfl, I2, turn_enum l _ _ (Nat.succ_ne_self _), ⟨⟨_, he⟩, hi⟩, fun b hb => ?_, q⟩
    have hb : b = s1.heap.objs.size + 1 ∨ b = s1.heap.objs.size := by simpa using hb
    rcases hb with rfl | rfl
    · exact I1.fpOk (Nat.le_succ _) (I1.hok.fresh (Nat.le_succ _))
    · exact I1.fpOk (Nat.le_refl _) (I1.hok.fresh (Nat.le_refl _))
/-- over the pairs of an enumerated list that the body leaves as it is -/
theorem for_enum {K : PySem.W.Frag} {a : Addr} {xs : List V} {g : TG} {tb : TS} {D : Ends} {σ : St} {H : Hp} (Pv : Nat → St → Hp → Prop) (h0 : Pv 0 σ H) (hl : ∀ i σ H, i ≤ xs.length → Pv i σ H → SqL K H a xs)
    (turn : ∀ i y p σ H, xs[i]? = some y → Pv i σ H → H p = none → g (.ref p) σ (upd H p (.tup [.int (i : Int), y])) fun σ2 H2 => tb { D with nx := Pv (i + 1), ct := Pv (i + 1), bk := D.nx } σ2 H2) (fin : ∀ σ H, Pv xs.length σ H → D.nx σ H) :
    ∃ W : Nat → Nat → St → Hp → Prop, (∃ m, W 0 m σ H) ∧ ∀ i m σ H, W i m σ H →
      ((Ite K a).stop i H ∧ D.nx σ H) ∨ ((Ite K a).go i H ∧ ∃ N : St → Hp → Prop, (∀ σ' H', N σ' H' → ∃ m', m' < m ∧ W (i + 1) m' σ' H') ∧ ∀ x H', (Ite K a).yld i H x H' → g x σ H' fun σ2 H2 => tb { D with nx := N, ct := N, bk := D.nx } σ2 H2) := by
  refine ⟨fun i m σ H => i + m = xs.length ∧ Pv i σ H, ⟨xs.length, by omega, h0⟩, fun i m σ H ⟨hm, hp⟩ => ?_⟩
  by_cases hi : i = xs.length
  · subst hi
    exact .inl ⟨⟨xs, hl _ σ H (Nat.le_refl _) hp, Nat.le_refl _⟩, fin σ H hp⟩
  · have q := hl i σ H (by omega) hp
    have hlt : i < xs.length := by omega
    refine .inr ⟨⟨xs, xs[i], q, List.getElem?_eq_getElem hlt⟩, Pv (i + 1), fun σ' H' hn => ⟨m - 1, by omega, by omega, hn⟩, fun x H' hy => ?_⟩
    obtain ⟨p, y, hp0, rfl, rfl, hy⟩ := hy
    exact turn i y p σ H (hy xs q) hp hp0
/-! ### comprehensions over pairs -/
/-- over the pairs of an enumerated list, with a test -/
theorem comp_enumT {K : PySem.W.Frag} {a : Addr} {xs : List V} {tc : TT} {te : TE} {c : St} {H : Hp} {Q : VK} {D : Addr} (Pv : Nat → List V → Hp → Prop) (hD : H D = some (.lst [])) (h0 : Pv 0 [] H) (hn : xs.length ≤ 1000)
    (hl : ∀ i ys H, Pv i ys H → SqL K H a xs)
    (turn : ∀ i ys y p H2, xs[i]? = some y → Pv i ys H2 → H2 D = some (.lst ys) → ys.length ≤ i → H2 p = none → tc (some (.int (i : Int)) :: some y :: c) (upd H2 p (.tup [.int (i : Int), y])) fun b H4 =>
      if b = true then te (some (.int (i : Int)) :: some y :: c) H4 fun v H5 => H5 D = some (.lst ys) ∧ Pv (i + 1) (ys ++ [v]) (upd H5 D (.lst (ys ++ [v]))) else H4 D = some (.lst ys) ∧ Pv (i + 1) ys H4)
    (fin : ∀ ys H2, Pv xs.length ys H2 → H2 D = some (.lst ys) → Q (.ref D) H2) :
    CompG2 K (Ite K a) (tCutT tc) (tCutE te) c H Q D := by
  refine ⟨fun i m H => i + m = xs.length ∧ ∃ ys : List V, ys.length ≤ i ∧ Pv i ys H ∧ H D = some (.lst ys), ⟨xs.length, by omega, [], Nat.le_refl _, h0, hD⟩, fun i m H2 ⟨hm, ys, he, hp, hd⟩ => ?_⟩
  have q := hl i ys H2 hp
  by_cases hi : i = xs.length
  · subst hi
    exact .inl ⟨⟨xs, q, Nat.le_refl _⟩, fin ys H2 hp hd⟩
  · have hlt : i < xs.length := by omega
    refine .inr ⟨⟨xs, xs[i], q, List.getElem?_eq_getElem hlt⟩, fun x H3 hy => ?_⟩
    obtain ⟨p, y, hp0, rfl, rfl, hy⟩ := hy
    refine ⟨p, .int (i : Int), y, rfl, SqT.of upd_same, _, turn i ys y p H2 (hy xs q) hp hd he hp0, fun b H4 h4 => ?_⟩
    cases b with
    | true =>
      rw [if_pos rfl] at h4 ⊢
      refine ⟨_, h4, fun v H5 ⟨hd5, hp5⟩ => ?_⟩
      exact ⟨ys, hd5, small1000 (by omega), m - 1, by omega, by omega, ys ++ [v], by rw [List.length_append]; show ys.length + 1 ≤ i + 1; omega, hp5, upd_same⟩
    | false =>
      rw [if_neg Bool.false_ne_true] at h4 ⊢
      exact ⟨m - 1, by omega, by omega, ys, by omega, h4.2, h4.1⟩
/-- over a list of pairs, without a test -/
theorem comp_pairs {K : PySem.W.Frag} {a : Addr} {xs : List V} {te : TE} {c : St} {H : Hp} {Q : VK} {D : Addr} (Pv : Nat → List V → Hp → Prop) (hD : H D = some (.lst [])) (h0 : Pv 0 [] H) (hn : xs.length ≤ 1000)
    (hl : ∀ i ys H, Pv i ys H → SqL K H a xs)
    (turn : ∀ i ys x H2, xs[i]? = some x → ys.length = i → Pv i ys H2 → H2 D = some (.lst ys) → ∃ t v1 v2, x = .ref t ∧ SqT K H2 t [v1, v2] ∧ te (some v1 :: some v2 :: c) H2 fun y H5 => H5 D = some (.lst ys) ∧ Pv (i + 1) (ys ++ [y]) (upd H5 D (.lst (ys ++ [y]))))
    (fin : ∀ ys H2, ys.length = xs.length → Pv xs.length ys H2 → H2 D = some (.lst ys) → Q (.ref D) H2) :
    CompG2 K (Itl K a) tTrue (tCutE te) c H Q D := by
  refine ⟨fun i m H => i + m = xs.length ∧ ∃ ys : List V, ys.length = i ∧ Pv i ys H ∧ H D = some (.lst ys), ⟨xs.length, by omega, [], rfl, h0, hD⟩, fun i m H2 ⟨hm, ys, he, hp, hd⟩ => ?_⟩
  have q := hl i ys H2 hp
  by_cases hi : i = xs.length
  · subst hi
    exact .inl ⟨⟨xs, q, Nat.le_refl _⟩, fin ys H2 he hp hd⟩
  · have hlt : i < xs.length := by omega
    refine .inr ⟨⟨xs, xs[i], q, List.getElem?_eq_getElem hlt⟩, fun x H3 hy => ?_⟩
    obtain ⟨rfl, hx⟩ := hy
    obtain ⟨t, v1, v2, ex, hT, ht⟩ := turn i ys x H3 (hx xs q) he hp hd
    refine ⟨t, v1, v2, ex, hT, ?_⟩
    dsimp only [tTrue]
    rw [if_pos rfl]
    refine ⟨_, ht, fun y H5 ⟨hd5, hp5⟩ => ?_⟩
    exact ⟨ys, hd5, small1000 (by omega), m - 1, by omega, by omega, ys ++ [y], by rw [List.length_append, he]; rfl, hp5, upd_same⟩
end
end L2

set_option Elab.async false
set_option linter.all false
set_option maxRecDepth 100000
set_option maxHeartbeats 1000000
namespace L2
open PySem PySem.Spec PyProof.Rows
open PySem.W (KasT kas_rev kas_asc kas_desc kas_tail3 kas_descPart kas_count kas_place kas_bin kas_sort)
/-- a tree of comparisons, run over ints -/
def Sat {α : Type} (n : Nat) (k : Nat → Int) : KasT α → (α → Prop) → Prop
  | .ret a, R => R a
  | .ask i j f, R => i < n ∧ j < n ∧ Sat n k (f (decide (k i < k j))) R
section
variable {α β : Type} {n : Nat} {k : Nat → Int}
theorem Sat.bind {f : α → KasT β} {R : β → Prop} : ∀ (t : KasT α), Sat n k t (fun a => Sat n k (f a) R) → Sat n k (t.bind f) R
  | .ret _, h => h
  | .ask i j g, ⟨h1, h2, h3⟩ => ⟨h1, h2, Sat.bind (g _) h3⟩
theorem Sat.mono {R R' : α → Prop} (hR : ∀ a, R a → R' a) : ∀ (t : KasT α), Sat n k t R → Sat n k t R'
  | .ret a, h => hR a h
  | .ask i j g, ⟨h1, h2, h3⟩ => ⟨h1, h2, Sat.mono hR (g _) h3⟩
theorem Sat.wp {cmp : Nat → Nat → (Bool → Shared → Prop) → Shared → Prop} {Q : α → Shared → Prop} {s : Shared} (hc : ∀ (i j : Nat) (C : Bool → Shared → Prop), i < n → j < n → C (decide (k i < k j)) s → cmp i j C s) :
    ∀ (t : KasT α), Sat n k t (fun a => Q a s) → t.kasWp cmp Q s
  | .ret a, h => h
  | .ask i j g, ⟨h1, h2, h3⟩ => hc i j _ h1 h2 (Sat.wp hc (g _) h3)
end
structure PAr (n : Nat) (p : Array Nat) : Prop where
  perm : p.toList.Perm (List.range n)
section
variable {n : Nat} {p : Array Nat} {k : Nat → Int}
theorem PAr.size (P : PAr n p) : p.size = n := by
  have := P.perm.length_eq
  rw [List.length_range, Array.length_toList] at this
  exact this
theorem getD_of (p : Array Nat) (i : Nat) : p.getD i 0 = (p[i]?).getD 0 := by
  by_cases h : i < p.size <;> simp [Array.getD, h]
theorem PAr.lt (P : PAr n p) (n0 : 0 < n) (i : Nat) : p.getD i 0 < n := by
  rw [getD_of]
  by_cases h : i < p.size
  · rw [Array.getElem?_eq_getElem h]
    have m : p[i] ∈ p.toList := Array.getElem_mem_toList h
    exact List.mem_range.mp (P.perm.mem_iff.mp m)
  · rw [Array.getElem?_eq_none (by omega)]
    exact n0
theorem PAr.inj (P : PAr n p) {i j : Nat} (hi : i < n) (hj : j < n) (e : p.getD i 0 = p.getD j 0) : i = j := by
  have nd : p.toList.Nodup := P.perm.nodup_iff.mpr List.nodup_range
  have z := P.size
  have hi' : i < p.toList.length := by rw [Array.length_toList]; omega
  have hj' : j < p.toList.length := by rw [Array.length_toList]; omega
  rw [getD_of, getD_of, Array.getElem?_eq_getElem (by omega), Array.getElem?_eq_getElem (by omega)] at e
  refine (List.getElem_inj nd (h₀ := hi') (h₁ := hj')).mp ?_
  simpa using e
/-- the key that stands at i -/
def Ky (k : Nat → Int) (p : Array Nat) (i : Nat) : Int := k (p.getD i 0)
def Up (k : Nat → Int) (p : Array Nat) (m : Nat) : Prop := ∀ i j, i < j → j < m → Ky k p i < Ky k p j
def Dn (k : Nat → Int) (p : Array Nat) (m : Nat) : Prop := ∀ i j, i < j → j < m → Ky k p j < Ky k p i
theorem PAr.rev (P : PAr n p) (i j : Nat) : PAr n (kas_rev p i j) := ⟨(Array.perm_iff_toList_perm.mp (mirror_perm p i j _)).trans P.perm⟩
theorem PAr.bub (P : PAr n p) (s d : Nat) : PAr n (bubble p s d) := ⟨(Array.perm_iff_toList_perm.mp (bubble_perm p s d)).trans P.perm⟩
theorem ky_rev (P : PAr n p) {m : Nat} (hm : m ≤ n) (i : Nat) : Ky k (kas_rev p 0 m) i = if i < m then Ky k p (m - 1 - i) else Ky k p i := by
  unfold Ky kas_rev
  rw [getD_of, getElem?_mirror_all (by rw [P.size]; exact hm)]
  by_cases h : i < m
  · rw [if_pos ⟨Nat.zero_le _, h⟩, if_pos h, Nat.zero_add, getD_of]
  · rw [if_neg (fun z => h z.2), if_neg h, getD_of]
theorem ky_bub (P : PAr n p) {s d : Nat} (hs : s < n) (hd : d ≤ s) (i : Nat) : Ky k (bubble p s d) i = if i = s - d then Ky k p s else if s - d < i ∧ i ≤ s then Ky k p (i - 1) else Ky k p i := by
  unfold Ky
  rw [getD_of, getElem?_bubble (by rw [P.size]; exact hs) d hd]
  by_cases h1 : i = s - d
  · rw [if_pos h1, if_pos h1, getD_of]
  · rw [if_neg h1, if_neg h1]
    by_cases h2 : s - d < i ∧ i ≤ s
    · rw [if_pos h2, if_pos h2, getD_of]
    · rw [if_neg h2, if_neg h2, getD_of]
variable (hk : ∀ a b, a < n → b < n → k a = k b → a = b) (n0 : 0 < n)
include hk n0
theorem PAr.ne (P : PAr n p) {i j : Nat} (hi : i < n) (hj : j < n) (h : i ≠ j) : Ky k p i ≠ Ky k p j := fun e => h (P.inj hi hj (hk _ _ (P.lt n0 i) (P.lt n0 j) e))
theorem up_snoc (P : PAr n p) {a : Nat} (h1 : 1 ≤ a) (u : Up k p a) (h : Ky k p (a - 1) < Ky k p a) : Up k p (a + 1) := fun i j hij hj => by
  by_cases e : j = a
  · subst e
    by_cases e2 : i = j - 1
    · rw [e2]; exact h
    · exact Int.lt_trans (u i (j - 1) (by omega) (by omega)) h
  · exact u i j hij (by omega)
theorem dn_snoc (P : PAr n p) {a : Nat} (h1 : 1 ≤ a) (u : Dn k p a) (h : Ky k p a < Ky k p (a - 1)) : Dn k p (a + 1) := fun i j hij hj => by
  by_cases e : j = a
  · subst e
    by_cases e2 : i = j - 1
    · rw [e2]; exact h
    · exact Int.lt_trans h (u i (j - 1) (by omega) (by omega))
  · exact u i j hij (by omega)
theorem sat_asc (P : PAr n p) {m : Nat} (hm : m ≤ n) : ∀ f a, 1 ≤ a → a + f = m → Up k p a → Sat n k (kas_asc p f a) (fun r => a ≤ r ∧ r ≤ m ∧ Up k p r ∧ (r < m → Ky k p r < Ky k p (r - 1)))
  | 0, a, h1, h2, u => ⟨Nat.le_refl _, by omega, u, fun z => by omega⟩
  | f + 1, a, h1, h2, u => by
    refine ⟨P.lt n0 _, P.lt n0 _, ?_⟩
    by_cases c : Ky k p a < Ky k p (a - 1)
    · have e : decide (k (p.getD a 0) < k (p.getD (a - 1) 0)) = true := decide_eq_true c
      rw [e]
      exact ⟨Nat.le_refl _, by omega, u, fun _ => c⟩
    · have e : decide (k (p.getD a 0) < k (p.getD (a - 1) 0)) = false := decide_eq_false c
      rw [e]
      have ne := P.ne hk n0 (i := a) (j := a - 1) (by omega) (by omega) (by omega)
      refine Sat.mono (fun r hr => ⟨by omega, hr.2⟩) _ (sat_asc P hm f (a + 1) (by omega) (by omega) (up_snoc hk n0 P h1 u (by omega)))
theorem sat_desc (P : PAr n p) {m : Nat} (hm : m ≤ n) : ∀ f a, 1 ≤ a → a + f = m → Dn k p a → Sat n k (kas_desc f p a 0) (fun r => r.1 = p ∧ r.2.2 = 0 ∧ a ≤ r.2.1 ∧ r.2.1 ≤ m ∧ Dn k p r.2.1)
  | 0, a, h1, h2, u => ⟨rfl, rfl, Nat.le_refl _, by show a ≤ m; omega, u⟩
  | f + 1, a, h1, h2, u => by
    refine ⟨P.lt n0 _, P.lt n0 _, ?_⟩
    by_cases c : Ky k p a < Ky k p (a - 1)
    · have e : decide (k (p.getD a 0) < k (p.getD (a - 1) 0)) = true := decide_eq_true c
      rw [e]
      refine Sat.mono (fun r hr => ⟨hr.1, hr.2.1, by omega, hr.2.2.2⟩) _ (sat_desc P hm f (a + 1) (by omega) (by omega) (dn_snoc hk n0 P h1 u c))
    · have e : decide (k (p.getD a 0) < k (p.getD (a - 1) 0)) = false := decide_eq_false c
      rw [e]
      have ne := P.ne hk n0 (i := a) (j := a - 1) (by omega) (by omega) (by omega)
      have e2 : decide (k (p.getD (a - 1) 0) < k (p.getD a 0)) = true := decide_eq_true (show Ky k p (a - 1) < Ky k p a by omega)
      refine ⟨P.lt n0 _, P.lt n0 _, ?_⟩
      rw [e2]
      exact ⟨rfl, rfl, Nat.le_refl _, by show a ≤ m; omega, u⟩
theorem sat_count (P : PAr n p) : Sat n k (kas_count n p) (fun r => PAr n r.2 ∧ 1 ≤ r.1 ∧ r.1 ≤ n ∧ Up k r.2 r.1) := by
  unfold kas_count
  refine Sat.bind _ (Sat.mono (fun r hr => ?_) _ (sat_asc hk n0 P (Nat.le_refl n) (n - 1) 1 (Nat.le_refl _) (by omega) (fun i j hij hj => by omega)))
  obtain ⟨h1, h2, u, hn⟩ := hr
  by_cases e : r = n
  · rw [if_pos (by simp [e])]
    exact ⟨P, h1, h2, u⟩
  · rw [if_neg (by simp [e])]
    by_cases g : r > 1
    · rw [if_pos g]
      have e2 : decide (k (p.getD 0 0) < k (p.getD (r - 1) 0)) = true := decide_eq_true (u 0 (r - 1) (by omega) (by omega))
      refine ⟨P.lt n0 _, P.lt n0 _, ?_⟩
      rw [e2]
      exact ⟨P, h1, h2, u⟩
    · rw [if_neg g]
      have er : r = 1 := by omega
      subst er
      have d2 : Dn k p 2 := fun i j hij hj => by
        have : i = 0 := by omega
        have : j = 1 := by omega
        subst i j
        exact hn (by omega)
      unfold kas_descPart
      refine Sat.bind _ (Sat.mono (fun q hq => ?_) _ (sat_desc hk n0 P (Nat.le_refl n) (n - 2) 2 (by omega) (by omega) d2))
      obtain ⟨q1, q2, q3⟩ := q
      obtain ⟨e1, e3, l1, l2, d⟩ := hq
      have e1 : q1 = p := e1
      have e3 : q3 = 0 := e3
      subst e1 e3
      rw [if_neg (show ¬ (0 > 0) by omega)]
      unfold kas_tail3
      have l1 : 2 ≤ q2 := l1
      have l2 : q2 ≤ n := l2
      have d : Dn k q1 q2 := d
      have u2 : Up k (kas_rev q1 0 q2) q2 := fun i j hij hj => by
        rw [ky_rev P l2, ky_rev P l2, if_pos (by omega), if_pos hj]
        exact d _ _ (by omega) (by omega)
      refine Sat.bind _ (Sat.mono (fun m hm => ?_) _ (sat_asc hk n0 (P.rev 0 q2) (Nat.le_refl n) (n - q2) q2 (by omega) (by omega) u2))
      exact ⟨P.rev 0 q2, by show 1 ≤ m; omega, hm.2.1, hm.2.2.1⟩
theorem sat_place (P : PAr n p) {s : Nat} (hs : s < n) (u : Up k p s) : ∀ f l r, l ≤ r → r ≤ s → r - l ≤ f → (∀ i, i < l → Ky k p i < Ky k p s) → (∀ i, r ≤ i → i < s → Ky k p s < Ky k p i) →
    Sat n k (kas_place p s f l r) (fun l' => l' ≤ s ∧ (∀ i, i < l' → Ky k p i < Ky k p s) ∧ ∀ i, l' ≤ i → i < s → Ky k p s < Ky k p i)
  | 0, l, r, h1, h2, h3, a, b => ⟨by omega, a, fun i hi => b i (by omega)⟩
  | f + 1, l, r, h1, h2, h3, a, b => by
    unfold kas_place
    by_cases g : l ≥ r
    · rw [if_pos g]
      exact ⟨by omega, a, fun i hi => b i (by omega)⟩
    · rw [if_neg g]
      refine ⟨P.lt n0 _, P.lt n0 _, ?_⟩
      have m1 : (l + r) / 2 < r := by omega
      have m2 : l ≤ (l + r) / 2 := by omega
      generalize (l + r) / 2 = q at m1 m2 ⊢
      by_cases c : Ky k p s < Ky k p q
      · have e : decide (k (p.getD s 0) < k (p.getD q 0)) = true := decide_eq_true c
        rw [e]
        refine sat_place P hs u f l q (by omega) (by omega) (by omega) a fun i hi hi2 => ?_
        by_cases e2 : i = q
        · rw [e2]; exact c
        · exact Int.lt_trans c (u q i (by omega) hi2)
      · have e : decide (k (p.getD s 0) < k (p.getD q 0)) = false := decide_eq_false c
        rw [e]
        have ne := P.ne hk n0 (i := s) (j := q) hs (by omega) (by omega)
        refine sat_place P hs u f (q + 1) r (by omega) (by omega) (by omega) (fun i hi => ?_) b
        by_cases e2 : i = q
        · rw [e2]; omega
        · have := u i q (by omega) (by omega)
          omega
theorem sat_bin : ∀ f (p : Array Nat) s, PAr n p → s + f = n → Up k p s → Sat n k (kas_bin f p s) (fun q => PAr n q ∧ Up k q n)
  | 0, p, s, P, h, u => ⟨P, by rw [show n = s by omega]; exact u⟩
  | f + 1, p, s, P, h, u => by
    unfold kas_bin
    refine Sat.bind _ (Sat.mono (fun l hl => ?_) _ (sat_place hk n0 P (by omega) u s 0 s (Nat.zero_le _) (Nat.le_refl _) (by omega) (fun i hi => by omega) (fun i h1 h2 => by omega)))
    obtain ⟨l1, lo, hi⟩ := hl
    refine sat_bin f _ (s + 1) (P.bub s (s - l)) (by omega) fun i j hij hj => ?_
    have el : s - (s - l) = l := by omega
    rw [ky_bub P (by omega) (by omega), ky_bub P (by omega) (by omega), el]
    by_cases c1 : i = l
    · rw [if_pos c1, if_neg (by omega), if_pos (by omega)]
      exact hi _ (by omega) (by omega)
    · rw [if_neg c1]
      by_cases c2 : l < i ∧ i ≤ s
      · rw [if_pos c2, if_neg (by omega), if_pos (by omega)]
        exact u _ _ (by omega) (by omega)
      · rw [if_neg c2]
        by_cases c3 : j = l
        · rw [if_pos c3]
          exact lo _ (by omega)
        · rw [if_neg c3]
          by_cases c4 : l < j ∧ j ≤ s
          · rw [if_pos c4]
            by_cases c5 : i = j - 1
            · exfalso; omega
            · exact u _ _ (by omega) (by omega)
          · rw [if_neg c4]
            exact u _ _ hij (by omega)
theorem sat_sort : Sat n k (kas_sort n) (fun q => PAr n q ∧ Up k q n) := by
  unfold kas_sort
  refine Sat.bind _ (Sat.mono (fun r hr => ?_) _ (sat_count hk n0 (p := (List.range n).toArray) ⟨List.Perm.refl _⟩))
  obtain ⟨P, h1, h2, u⟩ := hr
  by_cases c : r.1 < n
  · rw [if_pos c]
    have e : max r.1 1 = r.1 := by omega
    rw [e]
    exact sat_bin hk n0 _ _ _ P (by omega) u
  · rw [if_neg c]
    exact ⟨P, by rw [show n = r.1 by omega]; exact u⟩
end
end L2

set_option Elab.async false
set_option linter.all false
set_option maxRecDepth 100000
set_option maxHeartbeats 4000000
namespace L2
open PySem PySem.Spec PyProof.Rows
section
variable {prog : Program} {w : World} {A : Around} {E : Value → Shared → Prop} {s : Shared} {vs : List Value} {k : Nat → Int}
theorem zip_self (vs : List Value) : (vs.toArray.zip vs.toArray).map (·.2) = List.toArray (((List.range vs.length).toArray).toList.map fun i => vs.getD i Value.none) := by
  apply Array.toList_inj.mp
  refine List.ext_getElem? fun i => ?_
  by_cases h : i < vs.length
  · simp [h]
  · simp [h, Nat.le_of_not_lt h]
theorem list_sort_pairs {a : Addr} {n : Nat} {P : PySem.Fin → Shared → Prop} (ho : s.heap.get? a = some (seqObj "list" vs.toArray n)) (h64 : vs.length < 64) (hk : ∀ a b, a < vs.length → b < vs.length → k a = k b → a = b)
    (hask : 2 ≤ vs.length → ∀ h' : Heap, (∀ b o, b ≠ a → s.heap.get? b = some o → h'.get? b = some o) → wpAny (model prog w) A (keyKind' vs.toArray) (fun κ s' => s' = { s with heap := h' } ∧
      ∀ (i j : Nat) (C : Bool → Shared → Prop), i < vs.length → j < vs.length → C (decide (k i < k j)) s' → PySem.W.kas_ask prog w A κ vs i j C s') (fun _ _ => False) { s with heap := h' })
    (h : ∀ p : Array Nat, PAr vs.length p → Up k p vs.length → P (.done (.ret .none)) { s with heap := sortedHeap s.heap a vs (List.toArray (p.toList.map fun i => vs.getD i Value.none)) }) :
    wpAny (model prog w) A (Builtin.«list.sort» ⟨[.ref a], []⟩) P E s := by
  rw [list_sort_plain]
  have ha : a < s.heap.objs.size := Heap.lt_size ho
  refine wpAny_bind (listItems_at ho rfl ?_)
  refine wpAny_bind (listUpdate_at ho rfl ?_ (by rw [List.size_toArray, sizeLine_eq]; omega) (Nat.zero_le _))
  obtain ⟨e1, ho1⟩ : ∃ e1, (s.heap.update a (Obj.mapSeq fun _ => #[])).get? a = some (seqObj "list" #[] e1) := ⟨_, get?_update_seq ho (fun _ => #[])⟩
  refine wpAny_bind (seqEpoch_at ho1 rfl ?_)
  refine wpAny_bind (wpAny_newTuple ?_ (by show vs.length ≤ _; rw [sizeLine_eq]; omega))
  refine wpAny_bind (wpAny_newList ?_ (Nat.zero_le _))
  refine wpAny_holding ?_
  have ho6 : (((s.heap.update a (Obj.mapSeq fun _ => #[])).push (seqObj "tuple" vs.toArray 0)).push (seqObj "list" #[] 0)).get? a = some (seqObj "list" #[] e1) := by
    rw [Heap.get?_push_ne _ _ _ (by rw [size_push', Heap.size_update]; exact Nat.ne_of_lt (Nat.lt_succ_of_lt ha)), Heap.get?_push_ne _ _ _ (by rw [Heap.size_update]; exact Nat.ne_of_lt ha)]
    exact ho1
  show wpAny (model prog w) A _ P E { s with heap := ((s.heap.update a (Obj.mapSeq fun _ => #[])).push (seqObj "tuple" vs.toArray 0)).push (seqObj "list" #[] 0) }
  dsimp only
  have hsz : vs.toArray.size = vs.length := by simp
  by_cases h2 : vs.toArray.size < 2
  · rw [if_pos h2, if_pos h2]
    refine wpAny_bind (wpAny_pure ?_)
    rw [StateT.run_pure]
    refine wpAny_bind (wpAny_pure ?_)
    dsimp only
    refine wpAny_bind (seqEpoch_at ho6 rfl ?_)
    refine wpAny_bind (listUpdate_at ho6 rfl ?_ (Nat.zero_le _) (by rw [Array.size_map]; show (pairsOf vs).size ≤ _; rw [pairsOf_size, sizeLine_eq]; omega))
    simp only [bne_self_eq_false, Bool.false_eq_true, if_false]
    have q := h (List.range vs.length).toArray ⟨List.Perm.refl _⟩ (fun i j hij hj => by rw [hsz] at h2; omega)
    rw [← zip_self] at q
    exact wpAny_pure q
  · rw [if_neg h2, if_neg h2]
    have h2' : 2 ≤ vs.length := by rw [hsz] at h2; omega
    refine wpAny_bind (wpAny_mono (hask h2' _ fun b o hb e => ?_) (fun κ s0 hk0 => ?_) fun _ _ x => x.elim)
    · have hlt := Heap.lt_size e
      rw [Heap.get?_push_ne _ _ _ (by rw [size_push', Heap.size_update]; exact Nat.ne_of_lt (Nat.lt_succ_of_lt hlt)), Heap.get?_push_ne _ _ _ (by rw [Heap.size_update]; exact Nat.ne_of_lt hlt), Heap.get?_update_ne _ _ _ _ hb]
      exact e
    obtain ⟨es, hcmp⟩ := hk0
    refine wpAny_bind (wpAny_mono (PySem.W.kat_run (ks := vs) (G := fun p s' => s' = s0 ∧ PAr vs.length p ∧ Up k p vs.length) (Q := fun st' s' => ∃ p : Array Nat, s' = s0 ∧ PAr vs.length p ∧ Up k p vs.length ∧ arrOf st' = p.map (PySem.W.kas_item (vs.toArray.zip vs.toArray)) ∧ failedOf st' = none)
      rfl h2' h64 (fun p st' s' a1 a2 a3 a4 => ⟨p, a4.1, a4.2.1, a4.2.2, a2, a3⟩) (Sat.wp hcmp _ (Sat.mono (fun q hq => ⟨rfl, hq⟩) _ (sat_sort hk (by omega))))) ?_ fun _ _ e => e)
    rintro ⟨⟨⟩, st'⟩ s' ⟨p, hs', Pp, U, har, hf⟩
    subst hs'
    subst es
    dsimp only
    have hout := PySem.W.kat_snds rfl har
    rw [hout]
    refine wpAny_bind (seqEpoch_at ho6 rfl ?_)
    refine wpAny_bind (listUpdate_at ho6 rfl ?_ (Nat.zero_le _) (by rw [List.size_toArray, List.length_map, Array.length_toList, Pp.size, sizeLine_eq]; omega))
    rw [hf]
    simp only [bne_self_eq_false, Bool.false_eq_true, if_false]
    exact wpAny_pure (h p Pp U)
theorem sorted_pairs {l : Addr} {Q : Value → Shared → Prop} (hl : s.heap.IsList l vs.toArray) (h64 : vs.length < 64) (hk : ∀ a b, a < vs.length → b < vs.length → k a = k b → a = b)
    (hask : 2 ≤ vs.length → ∀ (A : Around) (h' : Heap), (∀ b o, s.heap.get? b = some o → h'.get? b = some o) → wpAny (model prog w) A (keyKind' vs.toArray) (fun κ s' => s' = { s with heap := h' } ∧
      ∀ (i j : Nat) (C : Bool → Shared → Prop), i < vs.length → j < vs.length → C (decide (k i < k j)) s' → PySem.W.kas_ask prog w A κ vs i j C s') (fun _ _ => False) { s with heap := h' })
    (h : ∀ p : Array Nat, PAr vs.length p → Up k p vs.length → Q (.ref (s.heap.objs.size + 1)) { s with heap := sortedAll s.heap vs (List.toArray (p.toList.map fun i => vs.getD i Value.none)) }) :
    wpAny (model prog w) A (call (.builtin "sorted") [.ref l]) Q E s := by
  refine Calls.call_function_entry kind_sorted plain_sorted entry_sorted (args_sorted1 _) ?_
  unfold Builtin.«sorted»
  refine wpAny_bind (m := checkCount "sorted" 1 1 _) (wpAny_pure ?_)
  refine wpAny_bind (collect_list hl ?_ (by rw [sizeLine_eq]; omega))
  refine wpAny_bind (wpAny_newList ?_ (by rw [sizeLine_eq]; omega))
  have hsz : ((s.heap.push (seqObj "list" #[] 0)).update s.heap.objs.size (Obj.mapSeq (· ++ vs.toArray))).objs.size = s.heap.objs.size + 1 := by
    rw [Heap.size_update, size_push']
  have hoL : (((s.heap.push (seqObj "list" #[] 0)).update s.heap.objs.size (Obj.mapSeq (· ++ vs.toArray))).push (seqObj "list" vs.toArray 0)).get? (s.heap.objs.size + 1) = some (seqObj "list" vs.toArray 0) := by
    rw [← hsz]; exact Heap.get?_push_size _ rfl
  have keep : ∀ b o, s.heap.get? b = some o → (((s.heap.push (seqObj "list" #[] 0)).update s.heap.objs.size (Obj.mapSeq (· ++ vs.toArray))).push (seqObj "list" vs.toArray 0)).get? b = some o := fun b o q => by
    have hlt : b < s.heap.objs.size := Heap.lt_size q
    rw [Heap.get?_push_ne _ _ _ (by rw [hsz]; exact Nat.ne_of_lt (Nat.lt_succ_of_lt hlt)), Heap.get?_update_ne _ _ _ _ (Nat.ne_of_lt hlt), Heap.get?_push_ne _ _ _ (Nat.ne_of_lt hlt)]
    exact q
  show wpAny _ _ _ _ _ { s with heap := ((s.heap.push (seqObj "list" #[] 0)).update s.heap.objs.size (Obj.mapSeq (· ++ vs.toArray))).push (seqObj "list" vs.toArray 0) }
  rw [hsz]
  refine wpAny_bind (wpAny_holding (wpAny_call_entry slot_list_sort ⟨_, hoL, rfl⟩ entry_list_sort (list_sort_pairs hoL h64 hk (fun h2 h' kp => hask h2 _ h' fun b o e => kp b o (Nat.ne_of_lt (Nat.lt_succ_of_lt (Heap.lt_size e))) (keep b o e)) fun p Pp U => ⟨_, rfl, ?_⟩) (args_list_sort _)))
  exact wpAny_pure ⟨_, rfl, h p Pp U⟩
end
theorem prs_key {prs : List (Int × Int)} (nd : (prs.map (·.1)).Nodup) : ∀ a b, a < prs.length → b < prs.length → (prs.getD a (0, 0)).1 = (prs.getD b (0, 0)).1 → a = b := fun a b ha hb e => by
  refine (List.getElem_inj nd (h₀ := by rw [List.length_map]; exact ha) (h₁ := by rw [List.length_map]; exact hb)).mp ?_
  rw [List.getElem_map, List.getElem_map]
  simpa [List.getD_eq_getElem?_getD, ha, hb] using e
theorem range_getD_prs (prs : List (Int × Int)) : (List.range prs.length).map (fun i => prs.getD i (0, 0)) = prs := by
  refine List.ext_getElem? fun i => ?_
  by_cases hi : i < prs.length
  · simp [hi]
  · simp [hi, Nat.le_of_not_lt hi]
section
variable {X : Cx}
/-- sorted(list of pairs of ints), the firsts all different -/
theorem call_sortedP : CallR X (.builtin "sorted") (fun xs H Q => ∃ l ts prs, xs = [.ref l] ∧ PrsN H l ts prs ∧ (prs.map (·.1)).Nodup ∧ prs.length < 64 ∧
    ∀ (p : Addr) (prs' : List (Int × Int)) (H' : Hp), H p = none → Same H H' → prs'.Perm prs → (prs'.map (·.1)).Pairwise (· < ·) → PrsAt H' p prs' → Q (.ref p) H') := by
  intro pins s σ H xs us Q I r h
  obtain ⟨l, ts, prs, rfl, hP, nd, h64, q⟩ := h
  obtain ⟨u, rfl, rx⟩ := vals1 r
  cases rx
  obtain ⟨its, rv, pl, hz⟩ := I.list (SqL.of hP.top)
  have eits := refs_of rv
  subst eits
  have hlen : (ts.map Value.ref).length = prs.length := by rw [List.length_map, hP.len]
  have at_ : ∀ i, i < prs.length → ∃ (t : Addr) (pr : Int × Int), ts[i]? = some t ∧ prs[i]? = some pr ∧ H t = some (.tup [.int pr.1, .int pr.2]) := fun i hi => by
    have h1 : i < ts.length := by rw [hP.len]; exact hi
    exact ⟨ts[i], prs[i], List.getElem?_eq_getElem h1, List.getElem?_eq_getElem hi, hP.row i _ _ (List.getElem?_eq_getElem h1) (List.getElem?_eq_getElem hi)⟩
  have obj : ∀ i, i < prs.length → ∃ (t : Addr) (o : Obj) (n : Nat) (tk1 tk2 : Tok), (ts.map Value.ref).getD i Value.none = .ref t ∧ s.heap.get? t = some o ∧ o.cls = .type "tuple" ∧ o.data = .seq #[.int (prs.getD i (0, 0)).1 tk1, .int (prs.getD i (0, 0)).2 tk2] n := fun i hi => by
    obtain ⟨t, pr, e1, e2, ht⟩ := at_ i hi
    obtain ⟨its', rv', ⟨o, ho, hc, n, hd⟩, _⟩ := I.tuple (SqT.of ht)
    obtain ⟨u, w, rfl, ⟨t1, rfl⟩, ⟨t2, rfl⟩⟩ := rv'.two
    refine ⟨t, o, n, t1, t2, by rw [List.getD_eq_getElem?_getD, List.getElem?_map, e1]; rfl, ho, hc, ?_⟩
    rw [hd, List.getD_eq_getElem?_getD, e2]
    rfl
  refine sorted_pairs (k := fun i => (prs.getD i (0, 0)).1) pl.isList (by rw [hlen]; exact h64) (by rw [hlen]; exact prs_key nd) (fun h2 A h' kp => ?_) fun p Pp U => ?_
  · rw [hlen] at h2 ⊢
    have tups : ∀ (m : Nat) (vs : List Value), vs.length = m → (∀ i, i < m → ∃ (t : Addr) (o : Obj) (n : Nat) (x y : Int) (tk1 tk2 : Tok), vs[i]? = some (.ref t) ∧ h'.get? t = some o ∧ o.cls = .type "tuple" ∧ o.data = .seq #[.int x tk1, .int y tk2] n) →
        ∃ fs : List Value, fs.length = m ∧ PySem.W.KatTups h' vs fs ∧ ∀ v ∈ fs, ∃ x tk, v = Value.int x tk := by
      intro m
      induction m with
      | zero =>
        intro vs hv _
        cases vs with
        | nil => exact ⟨[], rfl, PySem.W.KatTups.nil, fun v hv => by cases hv⟩
        | cons _ _ => cases hv
      | succ m ih =>
        intro vs hv hx
        cases vs with
        | nil => cases hv
        | cons v vs =>
          obtain ⟨t, o, n, x, y, tk1, tk2, e, ho, hc, hd⟩ := hx 0 (Nat.succ_pos _)
          have e : v = .ref t := by simpa using e
          subst e
          obtain ⟨fs, hf, kt, hi⟩ := ih vs (by simpa using hv) fun i hi => by
            obtain ⟨t, o, n, x, y, tk1, tk2, e, r⟩ := hx (i + 1) (by omega)
            exact ⟨t, o, n, x, y, tk1, tk2, by simpa using e, r⟩
          refine ⟨.int x tk1 :: fs, by rw [List.length_cons, hf], PySem.W.KatTups.cons ho hc hd rfl kt, fun z hz => ?_⟩
          rcases List.mem_cons.mp hz with rfl | hz
          · exact ⟨x, tk1, rfl⟩
          · exact hi z hz
    obtain ⟨fs, hf, kt, hi⟩ := tups prs.length (ts.map Value.ref) hlen fun i hi => by
      obtain ⟨t, o, n, tk1, tk2, e, ho, hc, hd⟩ := obj i hi
      refine ⟨t, o, n, _, _, tk1, tk2, ?_, kp t o ho, hc, hd⟩
      rw [List.getD_eq_getElem?_getD] at e
      have hl : i < (ts.map Value.ref).length := by rw [hlen]; exact hi
      rw [List.getElem?_eq_getElem hl] at e ⊢
      exact congrArg some e
    refine PySem.W.kat_kind (s := { s with heap := h' }) (T := .type "int") kt (by omega) (fun v hv => ?_) rfl ⟨rfl, fun i j C hi hj hC => ?_⟩
    · obtain ⟨x, tk, rfl⟩ := hi v hv
      exact PySem.W.Looks.now
    · obtain ⟨t1, o1, n1, a1, b1, e1, ho1, hc1, hd1⟩ := obj i hi
      obtain ⟨t2, o2, n2, a2, b2, e2, ho2, hc2, hd2⟩ := obj j hj
      unfold PySem.W.kas_ask
      rw [e1, e2]
      refine PySem.W.kat_lt (s := { s with heap := h' }) (kp _ _ ho1) hd1 (kp _ _ ho2) hd2 (PySem.W.kat_cons (wpAny_eqBool_int ?_))
      by_cases c : i = j
      · subst c
        rw [beq_self_eq_true]
        refine PySem.W.kat_yes (PySem.W.kat_cons (wpAny_eqBool_int ?_))
        rw [beq_self_eq_true]
        refine PySem.W.kat_yes (PySem.W.kat_nil ?_)
        have hC : C (decide ((prs.getD i (0, 0)).1 < (prs.getD i (0, 0)).1)) { s with heap := h' } := hC
        rw [decide_eq_false (Int.lt_irrefl _)] at hC
        exact hC
      · have ne : ((prs.getD i (0, 0)).1 == (prs.getD j (0, 0)).1) = false := by
          rw [beq_eq_false_iff_ne]
          exact fun z => c (prs_key nd i j hi hj z)
        rw [ne]
        exact PySem.W.kat_no (oneLt_int hC)
  · rw [hlen] at Pp U
    obtain ⟨e, he⟩ := sortedAll_at s.heap (ts.map Value.ref) (List.toArray (p.toList.map fun i => (ts.map Value.ref).getD i Value.none))
    have hmem : ∀ i ∈ p.toList, i < prs.length := fun i hi => List.mem_range.mp (Pp.perm.mem_iff.mp hi)
    have eout : (p.toList.map fun i => (ts.map Value.ref).getD i Value.none) = (p.toList.map fun i => ts.getD i 0).map Value.ref := by
      rw [List.map_map]
      refine List.map_congr_left fun i hi => ?_
      have hl : i < ts.length := by rw [hP.len]; exact hmem i hi
      simp [hl]
    rw [eout] at he
    have new : s.heap.objs.size ≤ s.heap.objs.size + 1 := Nat.le_succ _
    have hfr : H (s.heap.objs.size + 1) = none := I.hok.fresh new
    have hv : ∀ l : List Addr, Vals (l.map V.ref) (l.map Value.ref) := fun l => by
      induction l with
      | nil => exact .nil
      | cons x l ih => exact .cons rfl ih
    have sm := same_new hfr (.lst ((p.toList.map fun i => ts.getD i 0).map V.ref))
    refine ⟨.ref (s.heap.objs.size + 1), _, I.laid (t' := s.toks) (o := .lst ((p.toList.map fun i => ts.getD i 0).map V.ref)) (fun b ob z => PyProof.Rows.sortedAll_old z) new ?_, rfl, q _ (p.toList.map fun i => prs.getD i (0, 0)) _ hfr sm ?_ ?_ ⟨p.toList.map fun i => ts.getD i 0, upd_same, ?_, ?_⟩⟩
    · refine ⟨by rw [List.length_map, List.length_map, Array.length_toList, Pp.size]; exact small63 (by omega), (p.toList.map fun i => ts.getD i 0).map Value.ref, e, hv _, ?_⟩
      rw [eout]
      exact he
    · have := Pp.perm.map fun i => prs.getD i (0, 0)
      rw [range_getD_prs] at this
      exact this
    · rw [List.map_map]
      refine List.pairwise_iff_getElem.mpr fun i j hi hj hij => ?_
      rw [List.length_map, Array.length_toList] at hi hj
      rw [List.getElem_map, List.getElem_map]
      have := U i j hij (by rw [← Pp.size]; exact hj)
      unfold Ky at this
      rw [getD_of, getD_of, Array.getElem?_eq_getElem hi, Array.getElem?_eq_getElem hj] at this
      simpa using this
    · rw [List.length_map, List.length_map]
    · intro i t pr e1 e2
      rw [List.getElem?_map] at e1 e2
      cases ei : p.toList[i]? with
      | none => rw [ei] at e1; cases e1
      | some x =>
        rw [ei] at e1 e2
        have e1 : ts.getD x 0 = t := Option.some.inj e1
        have e2 : prs.getD x (0, 0) = pr := Option.some.inj e2
        obtain ⟨t', pr', g1, g2, ht⟩ := at_ x (hmem x (List.mem_of_getElem? ei))
        rw [List.getD_eq_getElem?_getD, g1] at e1
        rw [List.getD_eq_getElem?_getD, g2] at e2
        have e1 : t' = t := e1
        have e2 : pr' = pr := e2
        subst e1 e2
        exact sm _ _ ht
end
end L2

set_option Elab.async false
set_option linter.all false
set_option maxRecDepth 100000
set_option maxHeartbeats 4000000
namespace L2
open PySem PySem.Spec PyProof.Rows
theorem entry_dict_loop : entryFor table "dict.update.loop" = some Builtin.«dict.update.loop» := entryFor_of_tree (by kernel_rfl)
theorem plain_dict_loop : plainId "dict.update.loop" = true := by decide +kernel
theorem look_list_keys : typeLookup (.type "list") "keys" = pure none := by rw [typeLookup_type, builtinLookup_eq_fast]; kernel_rfl
/-- a list has no such attribute -/
theorem getAttr?_miss_list {prog : Program} {w : World} {A : Around} {E : Value → Shared → Prop} {s : Shared} {a : Addr} {o : Obj} {xs : Array Value} {k : Nat} {name : Str} {Q : Option Value → Shared → Prop}
    (hx : s.heap.get? a = some o) (hc : o.cls = .type "list") (hdat : o.data = .seq xs k) (hd : o.dict = none) (hmiss : typeLookup (.type "list") name = pure none) (hname : (["__module__", "__name__", "__qualname__", "__doc__", "__annotations__"] : List Str).contains name = false) (hA : A.handled = none)
    (h : ∀ h' tk, (∀ b u, s.heap.get? b = some u → h'.get? b = some u) → Q none { s with heap := h', toks := tk }) (hsz : name.length + 100 ≤ sizeLine := by size_fits) :
    wpAny (model prog w) A (getAttr? (.ref a) name) Q E s := by
  obtain ⟨c, dct, dat, sl⟩ := o
  simp only at hc hdat hd
  subst hc hdat hd
  obtain ⟨hp, g, d, tk, os⟩ := s
  have hT : ∀ tk', (⟨hp, g, d, tk', os⟩ : Shared).TypeIs (.ref a) "list" := fun _ => ⟨_, hx, rfl⟩
  have f1 := sub_AttributeError
  have f3 := F.slot_list_getattribute.lookup
  have f4 := F.slot_list_getattribute.bind (.ref a)
  have f5 := am_list_getattr_none
  unfold getAttr? getAttrBy? getAttrBy
  repeat (any_goals (first | assumption | exact hT _ | ((with_reducible show wpAny _ _ (call (Value.builtin "list.__getattribute__") _ _) _ _ _); refine call_meets F.slot_list_getattribute (hT _) am_entry_list_getattribute (F.args_list_getattribute_2 _ _) (meets_getattribute_miss_list a xs k sl name _ hmiss hname hsz) ⟨hx, hA, fun h' tk' e hx' => ?_⟩) | wp_step))
  obtain ⟨t', u', he⟩ := hx'.there
  show wpAny _ _ (getattributeRaised _ _ _ _ _ _ _) _ _ _
  unfold getattributeRaised
  repeat (any_goals (first | assumption | wp_step))
  exact h _ _ hx'.keeps
/-- the pairs stored one after another -/
def putAll (key : Nat → Int) (val : Nat → Value) : Nat → List (Key × Value)
  | 0 => []
  | i + 1 => stored (putAll key val i) (Sum.inl (key i)) (val i)
theorem putAll_len (key : Nat → Int) (val : Nat → Value) : ∀ i, (putAll key val i).length ≤ i
  | 0 => Nat.le_refl _
  | i + 1 => Nat.le_trans (stored_length_le _ _ _) (Nat.succ_le_succ (putAll_len key val i))
theorem putAll_eq {key : Nat → Int} {val : Nat → Value} {n : Nat} (nd : ∀ a b, a < n → b < n → key a = key b → a = b) : ∀ i, i ≤ n → putAll key val i = (List.range i).map fun j => (Sum.inl (key j), val j)
  | 0, _ => rfl
  | i + 1, h => by
    have ih := putAll_eq nd (val := val) i (by omega)
    show stored (putAll key val i) (Sum.inl (key i)) (val i) = _
    unfold stored
    rw [if_neg, ih, List.range_succ, List.map_append]
    · rfl
    · rw [ih]
      intro z
      obtain ⟨kv, hm, e⟩ := List.any_eq_true.mp z
      obtain ⟨j, hj, rfl⟩ := List.mem_map.mp hm
      have e : (Sum.inl (key j) : Key) = Sum.inl (key i) := of_decide_eq_true e
      have := nd j i (by have := List.mem_range.mp hj; omega) (by omega) (Sum.inl.inj e)
      have := List.mem_range.mp hj
      omega
theorem DictOf.kept {prog : Program} {w : World} {h h' : Heap} {a : Addr} {kvs : List (Key × Value)} (hm : h.DictOf (mixKind prog w) a kvs) (k : ∀ o, h.get? a = some o → h'.get? a = some o) : h'.DictOf (mixKind prog w) a kvs :=
  let ⟨o, es, ep, ho, r⟩ := hm; ⟨o, es, ep, k o ho, r⟩
section
variable {prog : Program} {w : World} {A : Around} {R : Result → Shared → Prop} {I : Addr} {fp wr : List Addr} {G : Array GenState → Array GenState → Prop} {n : Nat} {P : Nat → Value → Prop} {St : Nat → Shared → Prop}
theorem codeAny_dict_loop (W : WalksS prog w A.in1 I fp wr G n P St) (D : Addr) (hDf : D ∉ fp) (key : Nat → Int) (val : Nat → Value) (tp : Nat → Addr) (hP : ∀ i v, P i v → v = .ref (tp i)) (hn : n ≤ 1000) (ht : ∀ j, j < n → tp j ≠ D ∧ tp j ∉ wr) :
    ∀ (m i : Nat) (s : Shared), n - i = m → i ≤ n → St i s → s.heap.DictOf (mixKind prog w) D (putAll key val i) →
      (∀ j, j < n → ∃ o tok e, s.heap.get? (tp j) = some o ∧ o.cls = .type "tuple" ∧ o.data = .seq #[.int (key j) tok, val j] e) →
      (∀ s', Moved (D :: wr) G s s' → s'.heap.DictOf (mixKind prog w) D (putAll key val n) → R (.ok (.ret .none)) s') →
      codeAny (model prog w) A (.builtin "dict.update.loop" ⟨[.ref D, .ref I, rawInt (i : Int), .none], []⟩) R s := by
  have hDw : D ∉ wr := fun h => hDf (W.sub _ h)
  have hsub : ∀ b ∈ wr, b ∈ D :: wr := fun b hb => List.mem_cons_of_mem _ hb
  intro m
  induction m with
  | zero =>
    intro i s hk hi hst hD htp hR
    have hin : i = n := by omega
    subst hin
    refine codeAny_builtin entry_dict_loop ?_
    rw [Around.under_plainId plain_dict_loop _]
    show wpAny _ A.in1 (pyNext (.ref I) >>= _) _ _ s
    refine wpAny_bind (W.done s _ _ hst fun s' hm => ?_)
    show wpAny _ A.in1 (Builtin.Dict.addKeywords D [] >>= _) _ _ s'
    exact wpAny_bind (wpAny_pure (wpAny_pure (hR s' (hm.mono hsub) (DictOf.kept hD fun o e => hm.heap D o hDw e))))
  | succ m ih =>
    intro i s hk hi hst hD htp hR
    have hlt : i < n := by omega
    refine codeAny_builtin entry_dict_loop ?_
    rw [Around.under_plainId plain_dict_loop _]
    show wpAny _ A.in1 (pyNext (.ref I) >>= _) _ _ s
    refine wpAny_bind (W.item i s _ _ hlt hst fun v s' hPv hst' hm => ?_)
    obtain rfl := hP i v hPv
    have hD' : s'.heap.DictOf (mixKind prog w) D (putAll key val i) := DictOf.kept hD fun o e => hm.heap D o hDw e
    have htp' : ∀ j, j < n → ∃ o tok e, s'.heap.get? (tp j) = some o ∧ o.cls = .type "tuple" ∧ o.data = .seq #[.int (key j) tok, val j] e := fun j hj => by
      obtain ⟨o, tok, e, ho, r⟩ := htp j hj
      exact ⟨o, tok, e, hm.heap _ _ (ht j hj).2 ho, r⟩
    obtain ⟨o, tok, e, ho, hc, hd⟩ := htp' i hlt
    refine wpAny_bind (wpAny_holding ?_)
    refine wpAny_bind (show wpAny _ _ (tryCatch (Builtin.Dict.pairItems (.ref (tp i))) _) _ _ _ from wpAny_tryCatch ?_)
    unfold Builtin.Dict.pairItems
    refine wpAny_bind (wpAny_typeOf (T := "tuple") ⟨o, ho, hc⟩ ?_)
    rw [if_pos (by decide)]
    refine wpAny_bind (wpAny_seqItems ho hd (wpAny_pure ?_))
    show wpAny _ _ (holding [Value.int (key i) tok, val i] (dictSet D (.int (key i) tok) (val i))) _ _ _
    refine wpAny_holding (wpAny_dictSet_pairs (knd := mixKind prog w) (k := Sum.inl (key i)) (mixKind_int _ _ _ _) hD' (fun h' hd' hs' => ?_) (by have := putAll_len key val i; exact small63 (by omega)))
    have ec : rawInt ((i : Int) + 1) = rawInt ((i + 1 : Nat) : Int) := by push_cast; rfl
    refine wpAny_pure ⟨plainId_quiet plain_dict_loop _, ?_⟩
    rw [ec]
    refine ih (i + 1) _ (by omega) hlt (W.frame _ s' _ _ hst' (Nat.le_succ _) fun b hb o e => ?_) hd' (fun j hj => ?_) fun s'' hm'' hS'' => ?_
    · exact (hs'.2 b (fun h : b = D => hDf (by rw [← h]; exact hb))).trans e
    · obtain ⟨o, tok, e, ho, r⟩ := htp' j hj
      exact ⟨o, tok, e, (hs'.2 _ (ht j hj).1).trans ho, r⟩
    · refine hR s'' (Moved.trans W.gtrans ((hm.mono hsub).then_heap (Nat.le_succ _) fun b o hb e => ?_) hm'') hS''
      exact (hs'.2 b (fun h : b = D => hb (by rw [h]; exact List.mem_cons_self))).trans e
end
/-- what a dict of ints holds -/
def dV (qs : List (Int × Int)) : List (Key × V) := qs.map fun pr => (Sum.inl pr.1, V.int pr.2)
theorem kv_snoc {p : Key × V} {q : Key × Value} (h : p.1 = q.1 ∧ RelV p.2 q.2) : ∀ {l : List (Key × V)} {m : List (Key × Value)}, KV l m → KV (l ++ [p]) (m ++ [q])
  | _, _, .nil => .cons h .nil
  | _, _, .cons r t => .cons r (kv_snoc h t)
section
variable {X : Cx}
/-- dict(list of pairs of ints), the firsts all different -/
theorem call_dictP (hc : X.calm = true) : CallR X (.type "dict") (fun xs H Q => ∃ l ts prs, xs = [.ref l] ∧ PrsN H l ts prs ∧ (prs.map (·.1)).Nodup ∧ prs.length ≤ 1000 ∧ ∀ p : Addr, H p = none → Q (.ref p) (upd H p (.dK (dV prs)))) := by
  intro pins s σ H xs us Q I r h
  obtain ⟨l, ts, prs, rfl, hP, nd, hn, q⟩ := h
  obtain ⟨u, rfl, rx⟩ := vals1 r
  cases rx
  obtain ⟨its, rv, pl, hz⟩ := I.list (SqL.of hP.top)
  have eits := refs_of rv
  subst eits
  have hlen : (ts.map Value.ref).length = prs.length := by rw [List.length_map, hP.len]
  have key : ∀ a b, a < prs.length → b < prs.length → (prs.getD a (0, 0)).1 = (prs.getD b (0, 0)).1 → a = b := fun a b ha hb e => by
    refine (List.getElem_inj nd (h₀ := by rw [List.length_map]; exact ha) (h₁ := by rw [List.length_map]; exact hb)).mp ?_
    rw [List.getElem_map, List.getElem_map]
    simpa [List.getD_eq_getElem?_getD, ha, hb] using e
  have obj0 : ∀ i : Nat, ∃ v2 : Value, i < prs.length → RelV (.int (prs.getD i (0, 0)).2) v2 ∧ ∃ (o : Obj) (tok : Tok) (e : Nat), s.heap.get? (ts.getD i 0) = some o ∧ o.cls = .type "tuple" ∧ o.data = .seq #[.int (prs.getD i (0, 0)).1 tok, v2] e := fun i => by
    by_cases hi : i < prs.length
    · have h1 : i < ts.length := by rw [hP.len]; exact hi
      have ht := hP.row i _ _ (List.getElem?_eq_getElem h1) (List.getElem?_eq_getElem hi)
      obtain ⟨its', rv', ⟨o, ho, hc', n, hd⟩, _⟩ := I.tuple (SqT.of ht)
      obtain ⟨u, w', rfl, ⟨t1, rfl⟩, rw2⟩ := rv'.two
      refine ⟨w', fun _ => ⟨?_, o, t1, n, ?_, hc', ?_⟩⟩
      · rw [List.getD_eq_getElem?_getD, List.getElem?_eq_getElem hi]
        exact rw2
      · rw [List.getD_eq_getElem?_getD, List.getElem?_eq_getElem h1]
        exact ho
      · rw [hd, List.getD_eq_getElem?_getD, List.getElem?_eq_getElem hi]
        rfl
    · exact ⟨.none, fun z => absurd z hi⟩
  obtain ⟨val, obj⟩ := Classical.axiomOfChoice obj0
  obtain ⟨ol, n0, hol, hcl, hdl, hsl⟩ := id pl
  have hlS : l < s.heap.objs.size := Heap.lt_size hol
  have hh := I.ok.hd hc
  refine callType_codes (Q₁ := fun obj s₁ => obj = .ref s.heap.objs.size ∧ s₁ = { s with heap := s.heap.push { cls := .type "dict", data := .dict #[] } }) F.kt_called_dict (F.kt_typeCall_dict_1 _) F.entry_dict_init (kt_code_dict_new _ ⟨rfl, rfl⟩) ?_
  rintro ob s₁ ⟨rfl, rfl⟩
  have hnew : (s.heap.push { cls := .type "dict", data := .dict #[] }).DictOf (mixKind X.prog X.w) s.heap.objs.size [] := Heap.DictOf.new s.heap
  refine ⟨hnew.typeIs, F.args_dict_init_2 _ _, ?_⟩
  unfold Builtin.«dict.__init__»
  refine wpAny_bind ?_
  unfold Builtin.Dict.selfAndRest
  refine wpAny_bind (wpAny_notOrdered_dict hnew.typeIs ?_)
  show wpAny _ _ (pure (s.heap.objs.size, [Value.ref l])) _ _ _
  refine wpAny_pure ?_
  show wpAny _ _ (Builtin.Dict.updateFrom "dict.__init__" s.heap.objs.size (.ref l) [] .none) _ _ _
  unfold Builtin.Dict.updateFrom
  have hol1 : (s.heap.push { cls := .type "dict", data := .dict #[] }).get? l = some ol := Heap.get?_push_of_some _ hol
  refine wpAny_bind (wpAny_typeOf (T := "list") ⟨ol, hol1, hcl⟩ ?_)
  rw [if_pos (by decide)]
  refine wpAny_bind (getAttr?_miss_list (s := { s with heap := s.heap.push { cls := .type "dict", data := .dict #[] } }) hol1 hcl (by first | exact hsl | exact hsl.1) hdl look_list_keys (by decide +kernel) (by simp [hh]) (fun h1 tk1 k1 => ?_))
  rw [if_pos (by rfl)]
  have k0 : ∀ b o, s.heap.get? b = some o → h1.get? b = some o := fun b o e => k1 b o (Heap.get?_push_of_some _ e)
  have pl1 := pl.keeps k0
  refine wpAny_bind (wpAny_rule ?_)
  refine wpAny_bind (wpAny_pyIter_list pl1.isList ?_)
  have hD1 : h1.get? s.heap.objs.size = some { cls := .type "dict", data := .dict #[] } := k1 _ _ (Heap.get?_push_size _ rfl)
  have hDlt : s.heap.objs.size < h1.objs.size := Heap.lt_size hD1
  have hl1 : l < h1.objs.size := Heap.lt_size (k0 _ _ hol)
  have htp : ∀ j, j < prs.length → ts.getD j 0 < s.heap.objs.size := fun j hj => by
    obtain ⟨_, o, _, _, ho, _⟩ := obj j hj
    exact Heap.lt_size ho
  refine wpAny_pure ⟨plainId_quiet plain_dict_loop _, ?_⟩
  refine codeAny_dict_loop (A := X.A.in1) (n := (ts.map Value.ref).toArray.size) (Walks.list (by simp [hh]) h1.objs.size l (Nat.ne_of_lt hl1) (ts.map Value.ref).toArray).toS s.heap.objs.size ?_ (fun j => (prs.getD j (0, 0)).1) val (fun j => ts.getD j 0) ?_ ?_ ?_ _ 0 _ rfl (Nat.zero_le _)
    ⟨⟨_, Heap.get?_push_size _ rfl, rfl, rfl⟩, pl1.isList.push _⟩ ?_ ?_ ?_
  · intro hm
    simp only [List.mem_cons, List.not_mem_nil, or_false] at hm
    rcases hm with z | z
    · exact absurd hDlt (by rw [z]; exact Nat.lt_irrefl _)
    · exact absurd hlS (by rw [← z]; exact Nat.lt_irrefl _)
  · intro i v hv
    have hv : (ts.map Value.ref).toArray[i]? = some v := hv
    rw [List.getElem?_toArray, List.getElem?_map] at hv
    cases e : ts[i]? with
    | none => rw [e] at hv; cases hv
    | some t =>
      rw [e] at hv
      rw [List.getD_eq_getElem?_getD, e]
      exact (Option.some.inj hv).symm
  · rw [List.size_toArray, hlen]; exact hn
  · intro j hj
    rw [List.size_toArray, hlen] at hj
    have := htp j hj
    refine ⟨Nat.ne_of_lt this, fun hm => ?_⟩
    simp only [List.mem_cons, List.not_mem_nil, or_false] at hm
    exact absurd (Nat.lt_trans this hDlt) (by rw [hm]; exact Nat.lt_irrefl _)
  · exact DictOf.kept (DictOf.kept hnew (h' := h1) fun o e => k1 _ _ e) fun o e => Heap.get?_push_of_some _ e
  · intro j hj
    rw [List.size_toArray, hlen] at hj
    obtain ⟨_, o, tok, e, ho, r⟩ := obj j hj
    exact ⟨o, tok, e, Heap.get?_push_of_some _ (k0 _ _ ho), r⟩
  · intro s' hm hD'
    obtain ⟨h', g', d', tk', os'⟩ := s'
    have eg : g' = s.gens := hm.gens
    have ed : d' = s.drawn := hm.drawn
    have eo : os' = s.os := hm.os
    subst eg; subst ed; subst eo
    have old : ∀ b o, s.heap.get? b = some o → h'.get? b = some o := fun b o e => by
      have hlt := Heap.lt_size e
      refine hm.heap b o (fun z => ?_) (Heap.get?_push_of_some _ (k0 b o e))
      simp only [List.mem_cons, List.not_mem_nil, or_false] at z
      rcases z with z | z
      · exact absurd hlt (by rw [z]; exact Nat.lt_irrefl _)
      · exact absurd (Nat.lt_trans hlt hDlt) (by rw [z]; exact Nat.lt_irrefl _)
    refine ⟨rfl, .ref s.heap.objs.size, _, I.laid (t' := tk') (o := .dK (dV prs)) old (Nat.le_refl _) ?_, rfl, q _ (I.hok.fresh (Nat.le_refl _))⟩
    have esz : (ts.map Value.ref).toArray.size = prs.length := by rw [List.size_toArray, hlen]
    rw [esz, putAll_eq key _ (Nat.le_refl _)] at hD'
    have hbig : sysModules < s.heap.objs.size := Nat.lt_trans (by decide) (I.mod.glob.keeps I.bk).lt
    refine ⟨by unfold dV; rw [List.length_map]; exact small63 hn, beq_eq_false_iff_ne.mpr (Nat.ne_of_gt hbig), _, ?_, hD'⟩
    have gen : ∀ (m : Nat), m ≤ prs.length → KV (dV (prs.take m)) ((List.range m).map fun j => (Sum.inl (prs.getD j (0, 0)).1, val j)) := fun m => by
      induction m with
      | zero => intro _; exact .nil
      | succ m ih =>
        intro hm'
        have e1 : dV (prs.take (m + 1)) = dV (prs.take m) ++ [(Sum.inl prs[m].1, V.int prs[m].2)] := by
          unfold dV
          rw [List.take_succ_eq_append_getElem hm', List.map_append]
          rfl
        rw [e1, List.range_succ, List.map_append]
        have hx := (obj m hm').1
        have e2 : prs.getD m (0, 0) = prs[m] := by rw [List.getD_eq_getElem?_getD, List.getElem?_eq_getElem hm']; rfl
        rw [e2] at hx
        exact kv_snoc ⟨(by rw [e2] : (Sum.inl prs[m].1 : Key) = Sum.inl (prs.getD m (0, 0)).1), hx⟩ (ih (by omega))
    have := gen prs.length (Nat.le_refl _)
    rw [List.take_length] at this
    exact this
/-- d.get(k) -/
def rDGet : V → List V → Hp → VK → Prop := fun o vs H Q => ∃ (d : Addr) (qs : List (Int × Int)) (k : Int), o = .ref d ∧ vs = [.int k] ∧ H d = some (.dK (dV qs)) ∧ Q (oV ((qs.find? fun pr => decide (pr.1 = k)).map (·.2))) H
theorem kv_find : ∀ {qs : List (Int × Int)} {vs : List (Key × Value)}, KV (dV qs) vs → ∀ k : Int, RelV (oV ((qs.find? fun pr => decide (pr.1 = k)).map (·.2))) ((valueAt vs (Sum.inl k)).getD .none)
  | [], _, .nil, k => rfl
  | (a, b) :: qs, _, .cons (b := (k', v)) h t, k => by
    have ih := kv_find (qs := qs) t k
    obtain ⟨e, r⟩ := h
    have e : Sum.inl a = k' := e
    subst e
    unfold valueAt at ih ⊢
    rw [List.find?_cons, List.find?_cons]
    by_cases c : a = k
    · subst c
      rw [decide_eq_true (show (a, b).1 = a from rfl), decide_eq_true (show ((Sum.inl a : Key), v).1 = Sum.inl a from rfl)]
      exact r
    · rw [decide_eq_false (show ¬ (a, b).1 = k from c), decide_eq_false (show ¬ ((Sum.inl a : Key), v).1 = Sum.inl k from fun z => c (Sum.inl.inj z))]
      exact ih
theorem mt_dget : MtR X "dict.get" rDGet := by
  intro pins s σ H x vs v us Q I rx rv h
  obtain ⟨d, qs, k, rfl, rfl, hd, q⟩ := h
  cases rx
  obtain ⟨u, rfl, ⟨t, rfl⟩⟩ := rv.one
  obtain ⟨z, hs, ws, rel, dd⟩ : (dV qs).length ≤ sizeLine ∧ (d == sysModules) = false ∧ ∃ vs, KV (dV qs) vs ∧ s.heap.DictOf (mixKind X.prog X.w) d vs := I.hok d _ hd
  refine call_meetsIn PySem.F.slot_dict_get dd.typeIs PySem.F.entry_dict_get (PySem.F.args_dict_get_2 _ _) (meets_dict_get (mixKind X.prog X.w) d (k := Sum.inl k) (mixKind_int _ _ _ _) hs) ⟨_, dd.mapOf, ?_⟩
  exact ⟨_, H, I.tok _, kv_find rel k, q⟩
end
end L2

set_option Elab.async false
set_option linter.all false
set_option maxRecDepth 100000
set_option maxHeartbeats 1000000
namespace L2
open PySem PySem.Spec PyProof.Rows
/-- a method that keeps a promise -/
def CalM (P : Program) (w : World) (K : PySem.W.Frag) (mg : Str → Option Value) (base : Heap) (k : Nat) (C : Addr) (m : Str) (ps : List Str) (sp : Sp) : Prop :=
  ∃ (f : Addr) (fd : FuncData), FnOk P w K mg base CX0 k f fd ps sp ∧ Binds K fd ps [] ∧ Meth K C m f
theorem pe_calM {X : Cx} {k : Nat} {C : Addr} {m : Str} {ps : List Str} {sp : Sp} {pl : Sem Bool} {o e : Expr} {es : List Expr} {ta : TE} {t : TA} {pos apos : Pos} (he : PE X o ta) (c : Cls X.K C) (M : CalM X.prog X.w X.K X.mg X.base k C m ps sp) (hr : Room k X.A) (ha : PA X (e :: es) t)
    (hst : starEach (e :: es) X.env = (false, eval e X.env) :: starEach es X.env := by rfl) (hpl : (backTo pos (starEach es X.env)).any (·.1) = false := by rfl)
    (ht : eval (.Call (.Attribute o m apos) (e :: es) [] pos) X.env = (do
      let ov ← eval o X.env
      standAt apos.atName
      let (f, first) ← holding [ov] (getMethod ov m pl)
      callWith pos f first (backTo pos (starEach (e :: es) X.env)) (backToKw pos (keywordEach [] X.env))) := by rfl) :
    PE X (.Call (.Attribute o m apos) (e :: es) [] pos) (tMeth C m sp [] E0 ta t) := by
  obtain ⟨f, fd, F, b, hm⟩ := M
  exact pe_meth he c hm F hr b .nil pass0 ha hst hpl ht
/-- a class that can be made -/
def CalN (P : Program) (w : World) (K : PySem.W.Frag) (mg : Str → Option Value) (base : Heap) (k : Nat) (x : Str) (C : Addr) (ps : List Str) (sp : Sp) : Prop :=
  ∃ (f : Addr) (fd : FuncData), FnOk P w K mg base CX0 k f fd ps sp ∧ Binds K fd ps [] ∧ Mk K C f ∧ mg x = some (.ref C)
theorem pe_new {X : Cx} {k : Nat} {x : Str} {C : Addr} {ps : List Str} {sp : Sp} {e : Expr} {es : List Expr} {t : TA} {p pos : Pos} (N : CalN X.prog X.w X.K X.mg X.base k x C ps sp) (hr : Room (k + 1) X.A) (hg : Gl X x) (ha : PA X (e :: es) t)
    (hdb : (x == ("__debug__" : Str)) = false := by decide) (he : starEach (e :: es) X.env = (false, eval e X.env) :: starEach es X.env := by rfl) (hpl : (backTo pos (starEach es X.env)).any (·.1) = false := by rfl) :
    PE X (.Call (.Name x p) (e :: es) [] pos) (tMake C sp [] E0 t) := by
  obtain ⟨f, fd, F, b, M, hm⟩ := N
  exact pe_make M F hr hg hm b .nil pass0 ha hdb he hpl
theorem CalX.mono {P : Program} {w : World} {K : PySem.W.Frag} {mg : Str → Option Value} {base : Heap} {j k : Nat} {x : Str} {ps : List Str} {sp : Sp} (C : CalX P w K mg base j x ps sp) (h : j ≤ k) : CalX P w K mg base k x ps sp := by
  obtain ⟨f, fd, F, b, kp, m⟩ := C
  exact ⟨f, fd, F.mono h, b, kp, m⟩
theorem CalX.imp {P : Program} {w : World} {K : PySem.W.Frag} {mg : Str → Option Value} {base : Heap} {k : Nat} {x : Str} {ps : List Str} {sp sp' : Sp} (C : CalX P w K mg base k x ps sp) (h : ∀ vs H Q E, sp' vs H Q E → sp vs H Q E) : CalX P w K mg base k x ps sp' := by
  obtain ⟨f, fd, F, b, kp, m⟩ := C
  exact ⟨f, fd, F.imp h, b, kp, m⟩
theorem good_refuse {Cn Ct : Addr} {ps bs : List (List Int)} {H : Hp} {E : XK} (op : WOk ps bs.length) (ob : WOk bs ps.length) : refuse Cn Ct ps bs H E := fun H' _ =>
  ⟨fun z => z.elim (fun y => absurd y op.fits.1) (fun y => absurd y ob.fits.1), fun _ z => z.elim (fun y => absurd y op.fits.2) (fun y => absurd y ob.fits.2)⟩
theorem get_ref {as : List Addr} {i : Nat} {y : V} (h : (as.map V.ref)[i]? = some y) : ∃ b, as[i]? = some b ∧ y = .ref b := by
  rw [List.getElem?_map] at h
  cases e : as[i]? with
  | none => rw [e] at h; cases h
  | some z => rw [e] at h; exact ⟨z, rfl, (Option.some.inj h).symm⟩
theorem sum_fnL (n : Nat) (nx : Int → Nat) : (fnL n fun q => (nx q : Int)).sum = (sumF n nx : Int) := by
  induction n with
  | zero => rfl
  | succ n ih =>
    rw [sumF_succ]
    unfold fnL at ih ⊢
    rw [List.range_succ, List.map_append, List.sum_append, ih]
    simp
/-- [v for _ in xs] -/
theorem comp_const {K : PySem.W.Frag} {a : Addr} {xs : List V} {v : V} {c : St} {H : Hp} {Q : VK} {D : Addr} (hD : H D = none) (hn : xs.length ≤ 1000) (hl : SqL K H a xs) (fin : Q (.ref D) (upd H D (.lst (List.replicate xs.length v)))) :
    CompG (Itl K a) tTrue (tCutE (tC v)) c (upd H D (.lst [])) Q D := by
  refine comp_list (K := K) (xs := xs) (fun i ys H2 => ys = List.replicate i v ∧ H2 = upd H D (.lst ys)) upd_same ⟨rfl, rfl⟩ hn (fun i ys H2 ⟨_, e⟩ => by rw [e]; exact (same_new hD _).seq hl) ?_ ?_
  · rintro i ys x H2 hx hle ⟨e1, e2⟩ hd
    refine ⟨hd, by rw [e1, List.replicate_succ'], ?_⟩
    rw [e2, upd_upd]
  · rintro ys H2 hle ⟨e1, e2⟩ hd
    rw [e2, e1]
    exact fin
/-! ### the asking -/
structure AskT (K : PySem.W.Frag) (C : Addr) : Prop where
  cl : Cls K C
  nP : NoAttr K C "pilots"
  nB : NoAttr K C "boats"
  nA : NoAttr K C "asked"
  nO : NoAttr K C "pilot_of"
theorem s_pb : ¬ ("pilots" : Str) = "boats" := by decide +kernel
theorem s_pa : ¬ ("pilots" : Str) = "asked" := by decide +kernel
theorem s_po : ¬ ("pilots" : Str) = "pilot_of" := by decide +kernel
theorem s_ba : ¬ ("boats" : Str) = "asked" := by decide +kernel
theorem s_bo : ¬ ("boats" : Str) = "pilot_of" := by decide +kernel
theorem s_ao : ¬ ("asked" : Str) = "pilot_of" := by decide +kernel
def flds (p b a o : Addr) : List (Str × V) := putF "pilot_of" (.ref o) (putF "asked" (.ref a) (putF "boats" (.ref b) (putF "pilots" (.ref p) [])))
section
variable {p b a o : Addr}
theorem flds_o : (flds p b a o).lookup ("pilot_of" : Str) = some (.ref o) := by unfold flds; rw [lookup_putF, if_pos rfl]
theorem flds_a : (flds p b a o).lookup ("asked" : Str) = some (.ref a) := by unfold flds; rw [lookup_putF, if_neg s_ao, lookup_putF, if_pos rfl]
theorem flds_b : (flds p b a o).lookup ("boats" : Str) = some (.ref b) := by unfold flds; rw [lookup_putF, if_neg s_bo, lookup_putF, if_neg s_ba, lookup_putF, if_pos rfl]
theorem flds_p : (flds p b a o).lookup ("pilots" : Str) = some (.ref p) := by unfold flds; rw [lookup_putF, if_neg s_po, lookup_putF, if_neg s_pa, lookup_putF, if_neg s_pb, lookup_putF, if_pos rfl]
theorem flds_no {m : Str} (h1 : ¬ m = "pilot_of") (h2 : ¬ m = "asked") (h3 : ¬ m = "boats") (h4 : ¬ m = "pilots") : (flds p b a o).lookup m = none := by
  unfold flds
  rw [lookup_putF, if_neg h1, lookup_putF, if_neg h2, lookup_putF, if_neg h3, lookup_putF, if_neg h4]
  rfl
theorem flds_has : (flds p b a o).lookup ("has_boats_left" : Str) = none := flds_no (by decide +kernel) (by decide +kernel) (by decide +kernel) (by decide +kernel)
theorem flds_ask : (flds p b a o).lookup ("ask" : Str) = none := flds_no (by decide +kernel) (by decide +kernel) (by decide +kernel) (by decide +kernel)
theorem flds_from : (flds p b a o).lookup ("ask_from" : Str) = none := flds_no (by decide +kernel) (by decide +kernel) (by decide +kernel) (by decide +kernel)
end
/-- an asking stands at x; H0 is the heap ahead of it -/
structure AskN (C : Addr) (H0 H : Hp) (x p b a o dx : Addr) (ps bs : List (List Int)) (nx : Int → Nat) (hd : Int → Option Int) : Prop where
  rp : RowsAt H0 p ps
  rb : RowsAt H0 b bs
  fa : H0 a = none
  fo : H0 o = none
  ne : a ≠ o
  sm : Same H0 H
  ob : H x = some (.ins C dx (flds p b a o))
  ak : H a = some (.lst (fnL ps.length fun q => V.int (nx q : Int)))
  po : H o = some (.lst (fnL bs.length fun c => oV (hd c)))
def AskS (C : Addr) (H0 H : Hp) (x : Addr) (ps bs : List (List Int)) (nx : Int → Nat) (hd : Int → Option Int) : Prop := ∃ p b a o dx, AskN C H0 H x p b a o dx ps bs nx hd
section
variable {C : Addr} {H0 H : Hp} {x p b a o dx : Addr} {ps bs : List (List Int)} {nx : Int → Nat} {hd : Int → Option Int}
theorem AskN.xa (S : AskN C H0 H x p b a o dx ps bs nx hd) : x ≠ a := ne_of S.ob S.ak (by intro z; cases z)
theorem AskN.xo (S : AskN C H0 H x p b a o dx ps bs nx hd) : x ≠ o := ne_of S.ob S.po (by intro z; cases z)
theorem AskN.putA (S : AskN C H0 H x p b a o dx ps bs nx hd) {nx' : Int → Nat} : AskN C H0 (upd H a (.lst (fnL ps.length fun q => V.int (nx' q : Int)))) x p b a o dx ps bs nx' hd :=
  { S with sm := S.sm.upd S.fa _, ob := by rw [upd_ne S.xa]; exact S.ob, ak := upd_same, po := by rw [upd_ne S.ne.symm]; exact S.po }
theorem AskN.putO (S : AskN C H0 H x p b a o dx ps bs nx hd) {hd' : Int → Option Int} : AskN C H0 (upd H o (.lst (fnL bs.length fun c => oV (hd' c)))) x p b a o dx ps bs nx hd' :=
  { S with sm := S.sm.upd S.fo _, ob := by rw [upd_ne S.xo]; exact S.ob, po := upd_same, ak := by rw [upd_ne S.ne]; exact S.ak }
theorem AskN.same (S : AskN C H0 H x p b a o dx ps bs nx hd) {H' : Hp} (h : Same H H') : AskN C H0 H' x p b a o dx ps bs nx hd :=
  { S with sm := S.sm.trans h, ob := h _ _ S.ob, ak := h _ _ S.ak, po := h _ _ S.po }
end
/-! ### part of the way: the pilots below i have asked, alone is who asks next -/
structure Part (ps bs : List (List Int)) (i : Int) (al : Option Int) (nx : Int → Nat) (hd : Int → Option Int) : Prop where
  g : GS.Good (gP ps) (gP bs) nx hd
  dn : ∀ q, 0 ≤ q → q < i → al ≠ some q → (∀ c, hd c ≠ some q) → nx q = (gP ps q).length
  yet : ∀ q, i ≤ q → ∀ c, hd c ≠ some q
  al : ∀ q, al = some q → (0 ≤ q ∧ q < i) ∧ ∀ c, hd c ≠ some q
section
variable {ps bs : List (List Int)} {i : Int} {al : Option Int} {nx : Int → Nat} {hd : Int → Option Int}
theorem Part.start (ps bs : List (List Int)) : Part ps bs 0 none (fun _ => 0) (fun _ => none) :=
  ⟨GS.Good.start _ _, (fun q h0 h1 => by omega), (fun q _ c h => by cases h), (fun q h => by cases h)⟩
theorem Part.next (S : Part ps bs i none nx hd) (h0 : 0 ≤ i) : Part ps bs (i + 1) (some i) nx hd :=
  ⟨S.g, fun q q0 q1 ne h => S.dn q q0 (by have : q ≠ i := fun z => ne (by rw [z]); omega) (fun z => by cases z) h, fun q hq => S.yet q (by omega), fun q h => by
    cases h
    exact ⟨⟨h0, by omega⟩, S.yet i (Int.le_refl _)⟩⟩
theorem Part.fin (S : Part ps bs i al nx hd) (h : ∀ q, al = some q → ¬ nx q < (gP ps q).length) : Part ps bs i none nx hd :=
  ⟨S.g, fun q q0 q1 _ hq => by
    by_cases e : al = some q
    · have := h q e
      have := S.g.le q
      omega
    · exact S.dn q q0 q1 e hq, S.yet, fun q h => by cases h⟩
theorem Part.take {q b : Int} (S : Part ps bs i (some q) nx hd) (op : WOk ps bs.length) (e : (gP ps q)[nx q]? = some b) (w : wantsB (gP bs b) q (hd b) = true) : Part ps bs i (hd b) (GS.up nx q) (GS.put hd b q) := by
  obtain ⟨⟨q0, q1⟩, lone⟩ := S.al q rfl
  refine ⟨(S.g.step (gP_nd op) lone e).1 ((wants_iff _ _ _).mp w), fun r r0 r1 ne h => ?_, fun r hr c hc => ?_, fun r hr => ⟨?_, fun c hc => ?_⟩⟩
  · have rq : r ≠ q := fun z => h b (by rw [GS.put_self, z])
    rw [GS.up_ne rq]
    refine S.dn r r0 r1 (fun z => rq (Option.some.inj z).symm) fun c hc => ?_
    by_cases cb : c = b
    · exact ne (cb ▸ hc)
    · exact h c (by rw [GS.put_ne cb]; exact hc)
  · by_cases cb : c = b
    · rw [cb, GS.put_self] at hc
      have := Option.some.inj hc
      omega
    · rw [GS.put_ne cb] at hc
      exact S.yet r hr c hc
  · refine ⟨(gP_mem op (S.g.has (gP_nd op) hr).1).1.1, ?_⟩
    by_cases z : r < i
    · exact z
    · exact absurd hr (S.yet r (by omega) b)
  · by_cases cb : c = b
    · rw [cb, GS.put_self] at hc
      exact lone b (by rw [hr, ← hc])
    · rw [GS.put_ne cb] at hc
      exact cb (S.g.inj hc hr)
theorem Part.leave {q b : Int} (S : Part ps bs i (some q) nx hd) (op : WOk ps bs.length) (e : (gP ps q)[nx q]? = some b) (w : wantsB (gP bs b) q (hd b) = false) : Part ps bs i (some q) (GS.up nx q) hd := by
  obtain ⟨⟨q0, q1⟩, lone⟩ := S.al q rfl
  refine ⟨(S.g.step (gP_nd op) lone e).2 fun z => (by rw [(wants_iff _ _ _).mpr z] at w; cases w), fun r r0 r1 ne h => ?_, S.yet, S.al⟩
  have rq : r ≠ q := fun z => ne (by rw [z])
  rw [GS.up_ne rq]
  exact S.dn r r0 r1 ne h
theorem Part.done (S : Part ps bs (ps.length : Int) none nx hd) : GS.Done (gP ps) nx hd := fun p h => by
  by_cases z : 0 ≤ p ∧ p < (ps.length : Int)
  · exact S.dn p z.1 z.2 (fun e => by cases e) h
  · have e : gP ps p = [] := by
      unfold gP
      split
      · unfold L2.rw
        rw [List.getD_eq_getElem?_getD, List.getElem?_eq_none_iff.mpr (by omega)]
        rfl
      · rfl
    have := S.g.le p
    rw [e] at this ⊢
    simp at this
    simpa using this
end
/-! ### rather, by the list -/
def restB (ws : List Int) (one : Int) : Option Int → Bool
  | none => true
  | some y => decide (y ∈ ws.drop (ws.idxOf one + 1))
def ratherB (ws : List Int) (one : Int) (o : Option Int) : Bool := decide (one ∈ ws) && restB ws one o
theorem restB_some (ws : List Int) (one y : Int) : restB ws one (some y) = inV (.int y) (iv (ws.drop (ws.idxOf one + 1))) := (inV_ints y _).symm
theorem mem_drop_idx {l : List Int} (nd : l.Nodup) {y : Int} (hy : y ∈ l) (k : Nat) : y ∈ l.drop k ↔ k ≤ l.idxOf y := by
  constructor
  · intro h
    obtain ⟨j, e⟩ := List.mem_iff_getElem?.mp h
    rw [List.getElem?_drop] at e
    have := GS.idx_at nd e
    omega
  · intro h
    refine List.mem_iff_getElem?.mpr ⟨l.idxOf y - k, ?_⟩
    rw [List.getElem?_drop, show k + (l.idxOf y - k) = l.idxOf y by omega]
    exact GS.at_idx hy
theorem rather_wants {l : List Int} (nd : l.Nodup) (x : Int) {o : Option Int} (ho : ∀ y, o = some y → y ∈ l) : ratherB l x o = wantsB l x o := by
  cases o with
  | none =>
    rw [wantsB_none]
    unfold ratherB restB
    rw [Bool.and_true]
  | some y =>
    rw [wantsB_some]
    unfold ratherB restB
    congr 1
    have := mem_drop_idx nd (ho y rfl) (l.idxOf x + 1)
    exact decide_eq_decide.mpr this
def sp_rather (K : PySem.W.Frag) : Sp := fun vs H Q _ => ∃ (a : Addr) (ws : List Int) (one : Int) (o : Option Int), vs = [.ref a, .int one, oV o] ∧ SqL K H a (iv ws) ∧ ∀ H', Same H H' → Q (.bl (ratherB ws one o)) H'
/-! ### what the program's own defs promise -/
def sp_refuse_no_such (Cn Ct : Addr) (K : PySem.W.Frag) : Sp := fun vs H Q E => ∃ (a : Addr) (ls : List (List Int)) (n : Nat), vs = [.ref a, .int (n : Int)] ∧ RowsAt H a ls ∧ ls.length ≤ 100 ∧ (badN ls n → E (.ref Cn) none H) ∧ (¬ badN ls n → Q .non H)
def sp_refuse_twice (Cn Ct : Addr) (K : PySem.W.Frag) : Sp := fun vs H Q E => ∃ (a : Addr) (ls : List (List Int)), vs = [.ref a] ∧ RowsAt H a ls ∧ ls.length ≤ 100 ∧ (∀ l ∈ ls, l.length ≤ 100) ∧ (badT ls → ∀ H', Same H H' → E (.ref Ct) none H') ∧ (¬ badT ls → ∀ H', Same H H' → Q .non H')
def sp_refuse_wrong (Cn Ct : Addr) (K : PySem.W.Frag) : Sp := fun vs H Q E => ∃ (p b : Addr) (ps bs : List (List Int)), vs = [.ref p, .ref b] ∧ RowsAt H p ps ∧ RowsAt H b bs ∧ ps.length ≤ 100 ∧ bs.length ≤ 100 ∧ (∀ l ∈ ps, l.length ≤ 100) ∧ (∀ l ∈ bs, l.length ≤ 100) ∧
  refuse Cn Ct ps bs H E ∧ (¬ noSuch ps bs → ¬ twice ps bs → ∀ H', Same H H' → Q .non H')
def sp_init (C : Addr) : Sp := fun vs H Q _ => ∃ (x p b dx : Addr) (ps bs : List (List Int)) (H0 : Hp), vs = [.ref x, .ref p, .ref b] ∧ H x = some (.ins C dx []) ∧ H0 x = none ∧ Same H0 H ∧ RowsAt H0 p ps ∧ RowsAt H0 b bs ∧ ps.length ≤ 9 ∧ bs.length ≤ 9 ∧
  ∀ H', AskS C H0 H' x ps bs (fun _ => 0) (fun _ => none) → Q .non H'
def sp_has_boats_left (C : Addr) : Sp := fun vs H Q _ => ∃ (x : Addr) (q : Int) (ps bs : List (List Int)) (nx : Int → Nat) (hd : Int → Option Int) (H0 : Hp), vs = [.ref x, .int q] ∧ AskS C H0 H x ps bs nx hd ∧ 0 ≤ q ∧ q < (ps.length : Int) ∧
  Q (.bl (decide (nx q < (gP ps q).length))) H
def sp_ask (C : Addr) : Sp := fun vs H Q _ => ∃ (x : Addr) (q b : Int) (ps bs : List (List Int)) (nx : Int → Nat) (hd : Int → Option Int) (H0 : Hp), vs = [.ref x, .int q] ∧ AskS C H0 H x ps bs nx hd ∧ 0 ≤ q ∧ q < (ps.length : Int) ∧
  GS.Good (gP ps) (gP bs) nx hd ∧ WOk ps bs.length ∧ WOk bs ps.length ∧ (gP ps q)[nx q]? = some b ∧
  ∀ H', (wantsB (gP bs b) q (hd b) = true → AskS C H0 H' x ps bs (GS.up nx q) (GS.put hd b q) → Q (oV (hd b)) H') ∧ (wantsB (gP bs b) q (hd b) = false → AskS C H0 H' x ps bs (GS.up nx q) hd → Q (.int q) H')
def sp_ask_from (C : Addr) : Sp := fun vs H Q _ => ∃ (x : Addr) (i : Int) (ps bs : List (List Int)) (nx : Int → Nat) (hd : Int → Option Int) (H0 : Hp), vs = [.ref x, .int i] ∧ AskS C H0 H x ps bs nx hd ∧ 0 ≤ i ∧ i < (ps.length : Int) ∧ WOk ps bs.length ∧ WOk bs ps.length ∧
  Part ps bs i none nx hd ∧ ∀ nx' hd' H', AskS C H0 H' x ps bs nx' hd' → Part ps bs (i + 1) none nx' hd' → Q .non H'
/-- good wishes, or refused -/
def sp_end (C Cn Ct : Addr) (K : PySem.W.Frag) : Sp := fun vs H Q E => ∃ (p b : Addr) (ps bs : List (List Int)), vs = [.ref p, .ref b] ∧ RowsAt H p ps ∧ RowsAt H b bs ∧ ps.length ≤ 9 ∧ bs.length ≤ 9 ∧ (∀ l ∈ ps, l.length ≤ 100) ∧ (∀ l ∈ bs, l.length ≤ 100) ∧
  refuse Cn Ct ps bs H E ∧ (WOk ps bs.length → WOk bs ps.length → ∀ (x : Addr) (nx : Int → Nat) (hd : Int → Option Int) (H' H0 : Hp), Same H H0 → AskS C H0 H' x ps bs nx hd → GS.Good (gP ps) (gP bs) nx hd → GS.Done (gP ps) nx hd → Q (.ref x) H')
def sp_pairedX (Cn Ct : Addr) (K : PySem.W.Frag) : Sp := fun vs H Q E => ∃ (p b : Addr) (ps bs : List (List Int)), vs = [.ref p, .ref b] ∧ RowsAt H p ps ∧ RowsAt H b bs ∧ ps.length ≤ 9 ∧ bs.length ≤ 9 ∧ (∀ l ∈ ps, l.length ≤ 100) ∧ (∀ l ∈ bs, l.length ≤ 100) ∧
  refuse Cn Ct ps bs H E ∧ (WOk ps bs.length → WOk bs ps.length → ∀ (r : Addr) (prs : List (Int × Int)) (nx : Int → Nat) (hd : Int → Option Int) (H' : Hp), Same H H' → PrsAt H' r prs → GS.Good (gP ps) (gP bs) nx hd → GS.Done (gP ps) nx hd → PrOf hd prs → Q (.ref r) H')
def sp_askingsX (Cn Ct : Addr) (K : PySem.W.Frag) : Sp := fun vs H Q E => ∃ (p b : Addr) (ps bs : List (List Int)), vs = [.ref p, .ref b] ∧ RowsAt H p ps ∧ RowsAt H b bs ∧ ps.length ≤ 9 ∧ bs.length ≤ 9 ∧ (∀ l ∈ ps, l.length ≤ 100) ∧ (∀ l ∈ bs, l.length ≤ 100) ∧
  refuse Cn Ct ps bs H E ∧ (WOk ps bs.length → WOk bs ps.length → ∀ (nx : Int → Nat) (hd : Int → Option Int) (H' : Hp), Same H H' → GS.Good (gP ps) (gP bs) nx hd → GS.Done (gP ps) nx hd → Q (.int (sumF ps.length nx : Int)) H')
def sp_looseX (Cn Ct : Addr) (K : PySem.W.Frag) : Sp := fun vs H Q E => ∃ (p b a : Addr) (ps bs : List (List Int)) (prs : List (Int × Int)), vs = [.ref p, .ref b, .ref a] ∧ RowsAt H p ps ∧ RowsAt H b bs ∧ PrsAt H a prs ∧ ps.length ≤ 9 ∧ bs.length ≤ 9 ∧ (∀ l ∈ ps, l.length ≤ 100) ∧ (∀ l ∈ bs, l.length ≤ 100) ∧
  PIn ps bs prs ∧ (prs.map (·.1)).Nodup ∧ (prs.map (·.2)).Nodup ∧ refuse Cn Ct ps bs H E ∧ (WOk ps bs.length → WOk bs ps.length → ∀ (r : Addr) (H' : Hp), Same H H' → PrsAt H' r (lzAll ps bs prs ps.length) → Q (.ref r) H')
def sp_staysX (Cn Ct : Addr) (K : PySem.W.Frag) : Sp := fun vs H Q E => ∃ (p b a : Addr) (ps bs : List (List Int)) (prs : List (Int × Int)), vs = [.ref p, .ref b, .ref a] ∧ RowsAt H p ps ∧ RowsAt H b bs ∧ PrsAt H a prs ∧ ps.length ≤ 9 ∧ bs.length ≤ 9 ∧ (∀ l ∈ ps, l.length ≤ 100) ∧ (∀ l ∈ bs, l.length ≤ 100) ∧
  PIn ps bs prs ∧ (prs.map (·.1)).Nodup ∧ (prs.map (·.2)).Nodup ∧ refuse Cn Ct ps bs H E ∧ (WOk ps bs.length → WOk bs ps.length → ∀ (H' : Hp), Same H H' → Q (.bl (decide (lzAll ps bs prs ps.length = []))) H')
end L2

set_option Elab.async false
set_option linter.all false
set_option maxRecDepth 100000
set_option maxHeartbeats 1000000
namespace L2
open PySem PySem.Spec PyProof.Rows
theorem ne_ir {H : Hp} {q r : Addr} {ns : List Int} {ts : List Addr} {c : Int} (h1 : H q = some (.lst (iv ns))) (hc : c ∈ ns) (h2 : H r = some (.lst (ts.map V.ref))) : q ≠ r := ne_of h1 h2 fun z => by
  injection z with z
  cases ns with
  | nil => cases hc
  | cons n ns =>
    cases ts with
    | nil => cases z
    | cons t ts => cases z
theorem comp_swap {K : PySem.W.Frag} {a : Addr} {ts : List Addr} {prs : List (Int × Int)} {c : St} {H : Hp} {Q : VK} {D : Addr} (hT : PrsN H a ts prs) (hD : H D = none) (hn : prs.length ≤ 1000)
    (fin : ∀ ts2 H', Same H H' → PrsN H' D ts2 (prs.map fun pr => (pr.2, pr.1)) → Q (.ref D) H') : CompG2 K (Itl K a) tTrue (tCutE (tTup (tCons (tVar 1) (tCons (tVar 0) tNil)))) c (upd H D (.lst [])) Q D := by
  refine comp_pairs (K := K) (xs := ts.map V.ref) (fun i ys H2 => ∃ ts2 : List Addr, ys = ts2.map V.ref ∧ Same H H2 ∧ PrsN H2 D ts2 ((prs.take i).map fun pr => (pr.2, pr.1))) upd_same ⟨[], rfl, same_new hD _, PrsN.nil upd_same⟩ (by rw [List.length_map, hT.len]; exact hn) (fun i ys H2 ⟨_, _, s2, _⟩ => SqL.of (s2 _ _ hT.top)) ?_ ?_
  · rintro i ys x H2 hx hle ⟨ts2, rfl, s2, hP2⟩ hd
    obtain ⟨t, ht, rfl⟩ := get_ref hx
    have hil : i < prs.length := by rw [← hT.len]; exact (List.getElem?_eq_some_iff.mp ht).1
    have hrow := s2 _ _ (hT.row i t _ ht (List.getElem?_eq_getElem hil))
    refine ⟨t, _, _, rfl, SqT.of hrow, _, rfl, _, rfl, (by show 2 ≤ sizeLine; decide), fun t2 ht2 => ?_⟩
    have st := same_new ht2 (.tup [V.int prs[i].2, V.int prs[i].1])
    have P2 := (hP2.same st).snoc (t := t2) (p := (prs[i].2, prs[i].1)) upd_same
    refine ⟨st _ _ hd, ts2 ++ [t2], by rw [List.map_append]; rfl, (s2.trans st).upd hD _, ?_⟩
    rw [take_map_succ _ hil]
    exact P2
  · rintro ys H2 hle ⟨ts2, rfl, s2, hP2⟩ hd
    rw [List.length_map, hT.len, List.take_length] at hP2
    exact fin ts2 H2 s2 hP2
theorem find_mate {n : Nat} {prs : List (Int × Int)} (r1 : ∀ pr ∈ prs, 0 ≤ pr.1 ∧ pr.1 < (n : Int)) (nd : (prs.map (·.1)).Nodup) {k : Int} (k0 : 0 ≤ k) (k1 : k < (n : Int)) : (prs.find? fun pr => decide (pr.1 = k)).map (·.2) = (mateF 0 n prs).getD k.toNat none := by
  cases h : prs.find? fun pr => decide (pr.1 = k) with
  | some pr =>
    have hm := List.mem_of_find?_eq_some h
    have e : pr.1 = k := by simpa using List.find?_some h
    have := mateF_get (sd := 0) (n := n) (pr := pr) nd (fun q hq => (r1 q hq).1) hm (r1 pr hm).2
    rw [← e]
    exact this.symm
  | none =>
    have hno := List.find?_eq_none.mp h
    cases g : (mateF 0 n prs).getD k.toNat none with
    | none => rfl
    | some y =>
      obtain ⟨pr, hm, e1, e2⟩ := mateF_in g
      have e1 : pr.1.toNat = k.toNat := e1
      have := r1 pr hm
      exact absurd (decide_eq_true (show pr.1 = k by omega)) (hno pr hm)
theorem mateF_swap (n : Nat) (prs : List (Int × Int)) : mateF 0 n (prs.map fun pr => (pr.2, pr.1)) = mateF 1 n prs := by
  unfold mateF
  rw [List.foldl_map]
  rfl
theorem find_mate1 {n : Nat} {prs : List (Int × Int)} (r2 : ∀ pr ∈ prs, 0 ≤ pr.2 ∧ pr.2 < (n : Int)) (nd : (prs.map (·.2)).Nodup) {k : Int} (k0 : 0 ≤ k) (k1 : k < (n : Int)) :
    ((prs.map fun pr => (pr.2, pr.1)).find? fun pr => decide (pr.1 = k)).map (·.2) = (mateF 1 n prs).getD k.toNat none := by
  rw [← mateF_swap]
  refine find_mate (fun pr hp => ?_) (by rw [List.map_map]; exact nd) k0 k1
  obtain ⟨q, hq, rfl⟩ := List.mem_map.mp hp
  exact r2 q hq
section
variable {ps bs : List (List Int)} {prs : List (Int × Int)}
theorem mate_mem (O : PIn ps bs prs) {i y : Int} (i0 : 0 ≤ i) (h : (mateF 0 ps.length prs).getD i.toNat none = some y) : y ∈ rw ps i := by
  obtain ⟨pr, hpr, k1, k2⟩ := mateF_in h
  have := O.m1 pr hpr
  have r1 := O.r1 pr hpr
  have k1 : pr.1.toNat = i.toNat := k1
  have k2 : pr.2 = y := k2
  rw [k2, show pr.1 = i by omega] at this
  exact this
theorem mate_mem1 (O : PIn ps bs prs) {i y : Int} (i0 : 0 ≤ i) (h : (mateF 1 bs.length prs).getD i.toNat none = some y) : y ∈ rw bs i := by
  obtain ⟨pr, hpr, k1, k2⟩ := mateF_in h
  have := O.m2 pr hpr
  have r1 := O.r2 pr hpr
  have k1 : pr.2.toNat = i.toNat := k1
  have k2 : pr.1 = y := k2
  rw [k2, show pr.2 = i by omega] at this
  exact this
theorem eq_of_lt : ∀ {l m : List Int}, l.Pairwise (· < ·) → m.Pairwise (· < ·) → (∀ x, x ∈ l ↔ x ∈ m) → l = m
  | [], [], _, _, _ => rfl
  | [], y :: m, _, _, h => by have := (h y).mpr List.mem_cons_self; cases this
  | x :: l, [], _, _, h => by have := (h x).mp List.mem_cons_self; cases this
  | x :: l, y :: m, hl, hm, h => by
    rw [List.pairwise_cons] at hl hm
    have e : x = y := by
      rcases List.mem_cons.mp ((h x).mp List.mem_cons_self) with z | z
      · exact z
      · rcases List.mem_cons.mp ((h y).mpr List.mem_cons_self) with u | u
        · exact u.symm
        · have a := hm.1 x z
          have b := hl.1 y u
          omega
    subst e
    rw [eq_of_lt hl.2 hm.2 fun z => ⟨fun hz => ?_, fun hz => ?_⟩]
    · rcases List.mem_cons.mp ((h z).mp (List.mem_cons_of_mem _ hz)) with u | u
      · have := hl.1 z hz
        omega
      · exact u
    · rcases List.mem_cons.mp ((h z).mpr (List.mem_cons_of_mem _ hz)) with u | u
      · have := hm.1 z hz
        omega
      · exact u
theorem lz_sel {i : Int} {ns : List Int} (pm : ns.Perm (rw ps i)) (pw : ns.Pairwise (· ≤ ·)) (wl : Wl bs.length (rw ps i)) : (ns.filter fun c => lz ps bs prs i c).map (fun c => (i, c)) = lzRow ps bs prs i bs.length := by
  have e : (ns.filter fun c => lz ps bs prs i c) = ((List.range bs.length).filter fun b : Nat => lz ps bs prs i (b : Int)).map fun b : Nat => (b : Int) := by
    refine eq_of_lt ?_ ?_ fun x => ⟨fun h => ?_, fun h => ?_⟩
    · have nd : ns.Nodup := pm.nodup_iff.mpr wl.nd
      have : ns.Pairwise (· < ·) := (pw.and nd).imp fun ⟨h1, h2⟩ => by omega
      exact this.filter _
    · refine List.pairwise_map.mpr ?_
      refine List.Pairwise.filter _ ?_
      exact List.pairwise_lt_range.imp fun h => by omega
    · obtain ⟨h1, h2⟩ := List.mem_filter.mp h
      obtain ⟨x0, x1⟩ := wl.rg x (pm.mem_iff.mp h1)
      refine List.mem_map.mpr ⟨x.toNat, List.mem_filter.mpr ⟨List.mem_range.mpr (by omega), ?_⟩, by omega⟩
      rw [show ((x.toNat : Nat) : Int) = x by omega]
      exact h2
    · obtain ⟨b, hb, rfl⟩ := List.mem_map.mp h
      obtain ⟨h1, h2⟩ := List.mem_filter.mp hb
      refine List.mem_filter.mpr ⟨pm.mem_iff.mpr ?_, h2⟩
      unfold lz at h2
      rw [Bool.and_eq_true] at h2
      exact ((wants_iff _ _ _).mp h2.1).1
  rw [e, List.map_map]
  rfl
end
end L2

set_option Elab.async false
set_option linter.all false
set_option maxRecDepth 100000
set_option maxHeartbeats 4000000
namespace Mine
open PySem L2
def top (i : Nat) : Stmt := PySem.Challenge.pw_pilotpair_k02_refused.main.body.getD i (.Pass ⟨0, 0, 0, 0⟩)
abbrev s_rather : Stmt := top 5
theorem sc_rather : FnScope ["wishes", "one", "other"] ["wishes", "one", "other"] (defScope s_rather) := ⟨rfl, rfl, rfl, by decide +kernel, rfl, by decide +kernel, by decide +kernel⟩
abbrev s_refuse_no_such : Stmt := top 6
theorem sc_refuse_no_such : FnScope ["side", "others", "wishes", "number"] ["side", "others"] (defScope s_refuse_no_such) := ⟨rfl, rfl, rfl, by decide +kernel, rfl, by decide +kernel, by decide +kernel⟩
abbrev s_refuse_twice : Stmt := top 7
theorem sc_refuse_twice : FnScope ["side", "wishes"] ["side"] (defScope s_refuse_twice) := ⟨rfl, rfl, rfl, by decide +kernel, rfl, by decide +kernel, by decide +kernel⟩
abbrev s_refuse_wrong : Stmt := top 8
theorem sc_refuse_wrong : FnScope ["pilots", "boats"] ["pilots", "boats"] (defScope s_refuse_wrong) := ⟨rfl, rfl, rfl, by decide +kernel, rfl, by decide +kernel, by decide +kernel⟩
abbrev s_asking_in_the_end : Stmt := top 11
theorem sc_asking_in_the_end : FnScope ["pilots", "boats", "asking", "pilot"] ["pilots", "boats"] (defScope s_asking_in_the_end) := ⟨rfl, rfl, rfl, by decide +kernel, rfl, by decide +kernel, by decide +kernel⟩
abbrev s_paired : Stmt := top 12
theorem sc_paired : FnScope ["pilots", "boats", "asking"] ["pilots", "boats"] (defScope s_paired) := ⟨rfl, rfl, rfl, by decide +kernel, rfl, by decide +kernel, by decide +kernel⟩
abbrev s_askings : Stmt := top 13
theorem sc_askings : FnScope ["pilots", "boats"] ["pilots", "boats"] (defScope s_askings) := ⟨rfl, rfl, rfl, by decide +kernel, rfl, by decide +kernel, by decide +kernel⟩
abbrev s_loose : Stmt := top 15
theorem sc_loose : FnScope ["pilots", "boats", "pairs", "boat_of", "pilot_of", "found", "pilot", "wishes", "boat", "wished"] ["pilots", "boats", "pairs"] (defScope s_loose) := ⟨rfl, rfl, rfl, by decide +kernel, rfl, by decide +kernel, by decide +kernel⟩
abbrev s_stays : Stmt := top 16
theorem sc_stays : FnScope ["pilots", "boats", "pairs"] ["pilots", "boats", "pairs"] (defScope s_stays) := ⟨rfl, rfl, rfl, by decide +kernel, rfl, by decide +kernel, by decide +kernel⟩
abbrev s_l_whole : Stmt := top 18
theorem sc_l_whole : FnScope ["_law_found"] ["_law_found"] (defScope s_l_whole) := ⟨rfl, rfl, rfl, by decide +kernel, rfl, by decide +kernel, by decide +kernel⟩
abbrev s_l_at : Stmt := top 19
theorem sc_l_at : FnScope ["_law_script", "_law_k"] ["_law_script", "_law_k"] (defScope s_l_at) := ⟨rfl, rfl, rfl, by decide +kernel, rfl, by decide +kernel, by decide +kernel⟩
abbrev s_l_sides : Stmt := top 20
theorem sc_l_sides : FnScope ["_law_cells", "_law_first", "_law_second", "_law_pilots", "_law_boats", "_law_k", "_law_cell", "_law_pilot", "_law_boat", "_law_mine", "_law_its"] ["_law_cells", "_law_first", "_law_second"] (defScope s_l_sides) := ⟨rfl, rfl, rfl, by decide +kernel, rfl, by decide +kernel, by decide +kernel⟩
abbrev s_l_kept : Stmt := top 21
theorem sc_l_kept : FnScope ["_law_found", "_law_due", "_law_k", "_law_j"] ["_law_found", "_law_due"] (defScope s_l_kept) := ⟨rfl, rfl, rfl, by decide +kernel, rfl, by decide +kernel, by decide +kernel⟩
abbrev s_l_copies : Stmt := top 22
theorem sc_l_copies : FnScope ["_law_lists"] ["_law_lists"] (defScope s_l_copies) := ⟨rfl, rfl, rfl, by decide +kernel, rfl, by decide +kernel, by decide +kernel⟩
abbrev s_l_strange : Stmt := top 23
theorem sc_l_strange : FnScope ["_law_lists", "_law_spot", "_law_number", "_law_row"] ["_law_lists", "_law_spot", "_law_number"] (defScope s_l_strange) := ⟨rfl, rfl, rfl, by decide +kernel, rfl, by decide +kernel, by decide +kernel⟩
abbrev s_l_doubled : Stmt := top 24
theorem sc_l_doubled : FnScope ["_law_lists", "_law_spot", "_law_row"] ["_law_lists", "_law_spot"] (defScope s_l_doubled) := ⟨rfl, rfl, rfl, by decide +kernel, rfl, by decide +kernel, by decide +kernel⟩
abbrev s_l_answer : Stmt := top 25
theorem sc_l_answer : FnScope ["_law_way", "_law_pilots", "_law_boats", "_law_told", "e"] ["_law_way", "_law_pilots", "_law_boats"] (defScope s_l_answer) := ⟨rfl, rfl, rfl, by decide +kernel, rfl, by decide +kernel, by decide +kernel⟩
abbrev s_law : Stmt := top 26
theorem sc_law : FnScope ["_law_script", "_law_first", "_law_second", "_law_pilots", "_law_boats", "_law_spoil", "_law_spot", "_law_due", "_law_ones", "_law_others", "_law_way"] ["_law_script"] (defScope s_law) := ⟨rfl, rfl, rfl, by decide +kernel, rfl, by decide +kernel, by decide +kernel⟩
abbrev s_Asking___init__ : Stmt := inClass (top 10) 0
theorem sc_Asking___init__ : FnScope ["self", "pilots", "boats"] ["self", "pilots", "boats"] (defScope s_Asking___init__) := ⟨rfl, rfl, rfl, by decide +kernel, rfl, by decide +kernel, by decide +kernel⟩
abbrev s_Asking_has_boats_left : Stmt := inClass (top 10) 1
theorem sc_Asking_has_boats_left : FnScope ["self", "pilot"] ["self", "pilot"] (defScope s_Asking_has_boats_left) := ⟨rfl, rfl, rfl, by decide +kernel, rfl, by decide +kernel, by decide +kernel⟩
abbrev s_Asking_ask : Stmt := inClass (top 10) 2
theorem sc_Asking_ask : FnScope ["self", "pilot", "boat", "before"] ["self", "pilot"] (defScope s_Asking_ask) := ⟨rfl, rfl, rfl, by decide +kernel, rfl, by decide +kernel, by decide +kernel⟩
abbrev s_Asking_ask_from : Stmt := inClass (top 10) 3
theorem sc_Asking_ask_from : FnScope ["self", "pilot", "alone"] ["self", "pilot"] (defScope s_Asking_ask_from) := ⟨rfl, rfl, rfl, by decide +kernel, rfl, by decide +kernel, by decide +kernel⟩
section
variable {P : Program} {w : World} {K : PySem.W.Frag} {mg : Str → Option Value} {base : Heap} {f : Addr} {fd : FuncData}
theorem ok_rather (F : Fun K "rather" "rather" s_rather f fd) (B : Bl mg) : FnOk P w K mg base CX0 1 f fd ["wishes", "one", "other"] (sp_rather K) := by
  refine F.ok sc_rather (fun vs H Q E h => ?_) (fun cdv A outer s H vs Q E hr h => ?_)
  · obtain ⟨a, ws, one, o, rfl, _⟩ := h
    rfl
  obtain ⟨a, ws, one, o, rfl, hS, q⟩ := h
  refine ⟨_, (pss_cons (ps_if (pt_cmpR op_notIn_seq (pv 1) (pv 0) (by with_unfolding_all rfl)) (pss_one (ps_ret pe_bl)) pss_nil)
  (pss_cons (ps_if (pt_cmpR op_isN (pv 2) pe_non (nomark _)) (pss_one (ps_ret pe_bl)) pss_nil)
  (pss_one (ps_ret (pe_cmpR op_in_seq (pv 2) (pe_slice sl_list (pv 0) (po_some (pe_op op_add (pe_bm PySem.F.plainAttrs_list PySem.F.slot_list_index PySem.F.type_list_index mt_index (pv 0) (pa_cons (pv 1) pa_nil)) pe_int)) po_none) (by with_unfolding_all rfl)))))), ?_⟩
  refine ⟨_, rfl, _, rfl, a, _, rfl, .inl hS, rfl, flat_ints _, _, rfl, ?_⟩
  rw [inV_ints]
  refine ite2 (fun c => ?_) (fun c => ?_)
  · have hn : ¬ one ∈ ws := by simpa using c
    have e : ratherB ws one o = false := by unfold ratherB; rw [decide_eq_false hn, Bool.false_and]
    have := q H (Same.refl H)
    rw [e] at this
    exact this
  · have hy : one ∈ ws := by simpa using c
    have e : ratherB ws one o = restB ws one o := by unfold ratherB; rw [decide_eq_true hy, Bool.true_and]
    rw [e] at q
    cases o with
    | none =>
      refine ⟨_, rfl, rfl, _, rfl, ?_⟩
      exact iteT (q H (Same.refl H))
    | some y =>
      refine ⟨_, rfl, rfl, _, rfl, ?_⟩
      refine iteF ?_
      refine ⟨_, rfl, _, rfl, _, rfl, .inl ⟨rfl, _, hS⟩, _, rfl, a, _, _, rfl, rfl, hS, rfl, flat_ints _, (by rw [inV_ints]; exact decide_eq_true hy), _, _, rfl, rfl, _, rfl, a, _, rfl, hS, fun p hp => ?_⟩
      have ec : cutV (iv ws) (some (((ixV (.int one) (iv ws) : Nat) : Int) + 1)) none = iv (ws.drop (ws.idxOf one + 1)) := by
        have e1 : ((ixV (.int one) (iv ws) : Nat) : Int) + 1 = ((ws.idxOf one + 1 : Nat) : Int) := by rw [ixV_ints]; omega
        rw [e1, cut_from, iv, iv, List.map_drop]
      rw [ec]
      refine ⟨p, _, rfl, .inl (SqL.of upd_same), rfl, flat_ints _, ?_⟩
      have := q _ (same_new hp (.lst (iv (ws.drop (ws.idxOf one + 1)))))
      rw [restB_some] at this
      exact this
theorem ok_refuse_no_such {Cn Ct : Addr} (F : Fun K "refuse_no_such" "refuse_no_such" s_refuse_no_such f fd) (B : Bl mg) (O_NoSuch : OwnX K mg "NoSuch" Cn) : FnOk P w K mg base (CXE P w) 1 f fd ["side", "others"] (sp_refuse_no_such Cn Ct K) := by
  refine F.okX sc_refuse_no_such (fun vs H Q E h => ?_) (fun cdv A outer s H vs Q E hr h => ?_)
  · obtain ⟨a, ls, n, rfl, _⟩ := h
    rfl
  obtain ⟨a, ls, n, rfl, rl, hl, hE, hQ⟩ := h
  refine ⟨_, (pss_one (ps_for lv_of.own rfl (pi_list (pv 0)) (pg_name (i := 2) sc_refuse_no_such.nd rfl (by first | exact Or.inl rfl | exact Or.inr rfl))
  (pss_one (ps_for lv_of.own rfl (pi_list (pv 2)) (pg_name (i := 3) sc_refuse_no_such.nd rfl (by first | exact Or.inl rfl | exact Or.inr rfl))
  (pss_one (ps_if (PW.pt (pw_or (pt_cmpR op_lt (pv 3) pe_int (nomark _)) (pw_or1 (pt_cmpR op_ge (pv 3) (pv 1) (nomark _))))) (pss_one (ps_raise lv_of rfl O_NoSuch rfl (pa_cons pe_str pa_nil))) pss_nil)))))), ?_⟩
  obtain ⟨as, rn⟩ := rl
  refine ⟨_, rfl, a, rfl, ⟨_, SqL.of rn.top⟩, for_list (K := K) (a := a) (xs := as.map V.ref) (fun i σ H' => H' = H ∧ (∃ v2 v3 : Option V, σ = [some (.ref a), some (.int (n : Int)), v2, v3]) ∧ ∀ l ∈ ls.take i, ∀ x ∈ l, 0 ≤ x ∧ x < (n : Int)) ⟨rfl, ⟨none, none, rfl⟩, fun l hm => by rw [List.take_zero] at hm; cases hm⟩ (fun i σ H' _ h => by rw [h.1]; exact SqL.of rn.top) ?_ ?_⟩
  · rintro i y σ H' hi ⟨rfl, ⟨v2, v3, rfl⟩, ok⟩
    obtain ⟨b, hb, rfl⟩ := get_ref hi
    have hil : i < ls.length := by rw [← rn.len]; exact (List.getElem?_eq_some_iff.mp hb).1
    have hrow := rn.row i b ls[i] hb (List.getElem?_eq_getElem hil)
    refine ⟨_, rfl, b, rfl, ⟨_, SqL.of hrow⟩, for_list (K := K) (a := b) (xs := iv ls[i]) (fun j σ H'' => H'' = H' ∧ (∃ v3 : Option V, σ = [some (.ref a), some (.int (n : Int)), some (.ref b), v3]) ∧ ∀ x ∈ ls[i].take j, 0 ≤ x ∧ x < (n : Int)) ⟨rfl, ⟨v3, rfl⟩, fun x hm => by rw [List.take_zero] at hm; cases hm⟩ (fun j σ H'' _ h => by rw [h.1]; exact SqL.of hrow) ?_ ?_⟩
    · rintro j z σ H'' hj ⟨rfl, ⟨v3', rfl⟩, okj⟩
      obtain ⟨x, hx, rfl⟩ := get_iv hj
      have hxm : x ∈ ls[i] := List.mem_of_getElem? hx
      have hrz : x < 0 ∨ (n : Int) ≤ x → badN ls n := fun h => ⟨ls[i], List.getElem_mem hil, x, hxm, h⟩
      refine ⟨_, rfl, _, _, rfl, rfl, _, rfl, ?_⟩
      refine ite2 (fun c => ?_) (fun c => ?_)
      · exact iteT ⟨(by show 1 ≤ sizeLine; decide), hE (hrz (.inl (of_decide_eq_true c)))⟩
      · refine ⟨_, rfl, _, rfl, _, _, rfl, rfl, _, rfl, ?_⟩
        refine ite2 (fun c2 => ?_) (fun c2 => ?_)
        · exact ⟨(by show 1 ≤ sizeLine; decide), hE (hrz (.inr (of_decide_eq_true c2)))⟩
        · have n1 : ¬ x < 0 := of_decide_eq_false (Bool.eq_false_iff.mpr c)
          have n2 : ¬ (n : Int) ≤ x := of_decide_eq_false (Bool.eq_false_iff.mpr c2)
          refine ⟨rfl, ⟨_, rfl⟩, fun y hy => ?_⟩
          have hjl := (List.getElem?_eq_some_iff.mp hx).1
          rw [List.take_succ_eq_append_getElem hjl] at hy
          rcases List.mem_append.mp hy with hy | hy
          · exact okj y hy
          · rw [List.mem_singleton.mp hy, (List.getElem?_eq_some_iff.mp hx).2]
            omega
    · rintro σ H'' ⟨rfl, ⟨v3', rfl⟩, okj⟩
      refine ⟨rfl, ⟨_, _, rfl⟩, fun l hm => ?_⟩
      rw [List.take_succ_eq_append_getElem hil] at hm
      rcases List.mem_append.mp hm with hm | hm
      · exact ok l hm
      · rw [List.mem_singleton.mp hm]
        rw [iv, List.length_map, List.take_length] at okj
        exact okj
  · rintro σ H' ⟨rfl, ⟨v2, v3, rfl⟩, ok⟩
    refine hQ fun ⟨l, hm, x, hx, hb⟩ => ?_
    rw [List.length_map, rn.len, List.take_length] at ok
    have := ok l hm x hx
    omega
theorem ok_refuse_twice {Cn Ct : Addr} (F : Fun K "refuse_twice" "refuse_twice" s_refuse_twice f fd) (B : Bl mg) (O_Twice : OwnX K mg "Twice" Ct) : FnOk P w K mg base (CXE P w) 1 f fd ["side"] (sp_refuse_twice Cn Ct K) := by
  refine F.okX sc_refuse_twice (fun vs H Q E h => ?_) (fun cdv A outer s H vs Q E hr h => ?_)
  · obtain ⟨a, ls, rfl, _⟩ := h
    rfl
  obtain ⟨a, ls, rfl, rl, hl, hsh, hE, hQ⟩ := h
  refine ⟨_, (pss_one (ps_for lv_of.own rfl (pi_list (pv 0)) (pg_name (i := 1) sc_refuse_twice.nd rfl (by first | exact Or.inl rfl | exact Or.inr rfl))
  (pss_one (ps_if (pt_cmpR op_lt (pe_callB call_lenS rfl B.len PySem.boot_len (pa_cons (pe_callTy (call_setI rfl) rfl B.set PyProof.Rows.boot_set (pa_cons (pv 1) pa_nil)) pa_nil)) (pe_callB call_len_seq rfl B.len PySem.boot_len (pa_cons (pv 1) pa_nil)) (nomark _)) (pss_one (ps_raise lv_of rfl O_Twice rfl (pa_cons pe_str pa_nil))) pss_nil)))), ?_⟩
  obtain ⟨as, rn⟩ := rl
  refine ⟨_, rfl, a, rfl, ⟨_, SqL.of rn.top⟩, for_list (K := K) (a := a) (xs := as.map V.ref) (fun i σ H' => Same H H' ∧ (∃ v1 : Option V, σ = [some (.ref a), v1]) ∧ ∀ l ∈ ls.take i, l.Nodup) ⟨Same.refl _, ⟨none, rfl⟩, fun l hm => by rw [List.take_zero] at hm; cases hm⟩ (fun i σ H' _ h => SqL.of (h.1 _ _ rn.top)) ?_ ?_⟩
  · rintro i y σ H' hi ⟨s', ⟨v1, rfl⟩, ok⟩
    obtain ⟨b, hb, rfl⟩ := get_ref hi
    have hil : i < ls.length := by rw [← rn.len]; exact (List.getElem?_eq_some_iff.mp hb).1
    have hrow := s' _ _ (rn.row i b ls[i] hb (List.getElem?_eq_getElem hil))
    have hm0 : ls[i] ∈ ls := List.getElem_mem hil
    refine ⟨_, rfl, b, ls[i], rfl, SqL.of hrow, by have := hsh _ hm0; omega, fun p S n hp hn hle => ?_⟩
    have s1 := same_new hp (.set S n)
    refine ⟨p, S, n, rfl, upd_same, _, rfl, b, _, rfl, .inl (SqL.of (s1 _ _ hrow)), _, _, rfl, rfl, _, rfl, ?_⟩
    rw [show (iv ls[i]).length = ls[i].length from List.length_map _]
    refine ite2 (fun c => ?_) (fun c => ?_)
    · have c' : (n : Int) < (ls[i].length : Int) := of_decide_eq_true c
      exact ⟨(by show 1 ≤ sizeLine; decide), hE ⟨ls[i], hm0, fun z => by have := hn.mpr z; omega⟩ _ (s'.trans s1)⟩
    · have c' : ¬ (n : Int) < (ls[i].length : Int) := of_decide_eq_false (Bool.eq_false_iff.mpr c)
      refine ⟨s'.trans s1, ⟨_, rfl⟩, fun l hm => ?_⟩
      rw [List.take_succ_eq_append_getElem hil] at hm
      rcases List.mem_append.mp hm with hm | hm
      · exact ok l hm
      · rw [List.mem_singleton.mp hm]
        exact hn.mp (by omega)
  · rintro σ H' ⟨s', ⟨v1, rfl⟩, ok⟩
    refine hQ (fun ⟨l, hm, hb⟩ => ?_) H' s'
    rw [List.length_map, rn.len, List.take_length] at ok
    exact hb (ok l hm)
theorem ok_refuse_wrong {Cn Ct : Addr} (F : Fun K "refuse_wrong" "refuse_wrong" s_refuse_wrong f fd) (B : Bl mg) (C_refuse_no_such : CalX P w K mg base 1 "refuse_no_such" ["side", "others"] (sp_refuse_no_such Cn Ct K)) (C_refuse_twice : CalX P w K mg base 1 "refuse_twice" ["side"] (sp_refuse_twice Cn Ct K)) :
    FnOk P w K mg base (CXE P w) 2 f fd ["pilots", "boats"] (sp_refuse_wrong Cn Ct K) := by
  refine F.okX sc_refuse_wrong (fun vs H Q E h => ?_) (fun cdv A outer s H vs Q E hr h => ?_)
  · obtain ⟨p, b, ps, bs, rfl, _⟩ := h
    rfl
  obtain ⟨p, b, ps, bs, rfl, rp, rb, lp, lb, sp, sb, R, hQ⟩ := h
  refine ⟨_, (pss_cons (ps_expr (pe_calX C_refuse_no_such (hr.mono (by decide)) rfl lv_of.pass (pa_cons (pv 0) (pa_cons (pe_callB call_len_seq rfl B.len PySem.boot_len (pa_cons (pv 1) pa_nil)) pa_nil))))
  (pss_cons (ps_expr (pe_calX C_refuse_no_such (hr.mono (by decide)) rfl lv_of.pass (pa_cons (pv 1) (pa_cons (pe_callB call_len_seq rfl B.len PySem.boot_len (pa_cons (pv 0) pa_nil)) pa_nil))))
  (pss_cons (ps_expr (pe_calX C_refuse_twice (hr.mono (by decide)) rfl lv_of.pass (pa_cons (pv 0) pa_nil)))
  (pss_one (ps_expr (pe_calX C_refuse_twice (hr.mono (by decide)) rfl lv_of.pass (pa_cons (pv 1) pa_nil))))))), ?_⟩
  obtain ⟨tp, htp, ltp⟩ := rp.top
  obtain ⟨tb, htb, ltb⟩ := rb.top
  refine ⟨_, rfl, _, rfl, b, _, rfl, .inl (SqL.of htb), p, ps, tb.length, rfl, rp, lp, fun h => ?_, fun n1 => ?_⟩
  · rw [ltb] at h
    exact (R H (Same.refl _)).1 (.inl h)
  rw [ltb] at n1
  refine ⟨_, rfl, _, rfl, p, _, rfl, .inl (SqL.of htp), b, bs, tp.length, rfl, rb, lb, fun h => ?_, fun n2 => ?_⟩
  · rw [ltp] at h
    exact (R H (Same.refl _)).1 (.inr h)
  rw [ltp] at n2
  have ns : ¬ noSuch ps bs := fun z => z.elim n1 n2
  refine ⟨_, rfl, p, ps, rfl, rp, lp, sp, fun h H' s' => (R H' s').2 ns (.inl h), fun t1 H1 s1 => ?_⟩
  refine ⟨_, rfl, b, bs, rfl, rb.same s1, lb, sb, fun h H' s' => (R H' (s1.trans s')).2 ns (.inr h), fun t2 H2 s2 => ?_⟩
  exact hQ ns (fun z => z.elim t1 t2) H2 (s1.trans s2)
theorem ok_Asking___init__ {C : Addr} (F : Fun K "__init__" "Asking.__init__" s_Asking___init__ f fd) (B : Bl mg) (T : AskT K C) : FnOk P w K mg base CX0 1 f fd ["self", "pilots", "boats"] (sp_init C) := by
  refine F.ok sc_Asking___init__ (fun vs H Q E h => ?_) (fun cdv A outer s H vs Q E hr h => ?_)
  · obtain ⟨x, p, b, dx, ps, bs, H0, rfl, _⟩ := h
    rfl
  obtain ⟨x, p, b, dx, ps, bs, H0, rfl, hx, hx0, s0, rp, rb, l9, k9, q⟩ := h
  refine ⟨_, (pss_cons (ps_fld (pv 0) (pv 1) rfl)
  (pss_cons (ps_fld (pv 0) (pv 2) rfl)
  (pss_cons (ps_fld (pv 0) (pe_comp [] [] rfl (pi_list (pv 1)) (fun C fp s₀ H₀ => pf_nil) (fun C fp s₀ H₀ => pe_cutE pe_int)) rfl)
  (pss_one (ps_fld (pv 0) (pe_comp [] [] rfl (pi_list (pv 2)) (fun C fp s₀ H₀ => pf_nil) (fun C fp s₀ H₀ => pe_cutE pe_non)) rfl))))), ?_⟩
  refine ⟨_, rfl, _, rfl, x, C, dx, _, rfl, hx, T.cl, T.nP, (by show 0 < 1000; decide), ?_⟩
  refine ⟨_, rfl, _, rfl, x, C, dx, _, rfl, upd_same, T.cl, T.nB, Nat.lt_of_le_of_lt (length_putF _ _ _) (by show 1 < 1000; decide), ?_⟩
  rw [upd_upd]
  obtain ⟨tp, htp, ltp⟩ := rp.top
  obtain ⟨tb, htb, ltb⟩ := rb.top
  have s2 : Same H0 (upd H x (.ins C dx (putF "boats" (.ref b) (putF "pilots" (.ref p) [])))) := s0.upd hx0 _
  have hx2 : (upd H x (.ins C dx (putF "boats" (.ref b) (putF "pilots" (.ref p) [])))) x = some (.ins C dx (putF "boats" (.ref b) (putF "pilots" (.ref p) []))) := upd_same
  generalize upd H x (.ins C dx (putF "boats" (.ref b) (putF "pilots" (.ref p) []))) = H2 at s2 hx2 ⊢
  refine ⟨_, rfl, p, rfl, ⟨_, SqL.of (s2 _ _ htp)⟩, fun a ha => comp_const (K := K) ha (by omega) (SqL.of (s2 _ _ htp)) ?_⟩
  have ha0 : H0 a = none := s2.free ha
  have nxa : x ≠ a := ne_of_none hx2 ha
  refine ⟨_, rfl, x, C, dx, _, rfl, (by rw [upd_ne nxa]; exact hx2), T.cl, T.nA, Nat.lt_of_le_of_lt (length_putF _ _ _) (Nat.lt_of_le_of_lt (Nat.succ_le_succ (length_putF _ _ _)) (by show 2 < 1000; decide)), ?_⟩
  rw [ltp, ← fnL_const]
  have s3 := (s2.upd ha0 (.lst (fnL ps.length fun _ => V.int 0))).upd hx0 (.ins C dx (putF "asked" (.ref a) (putF "boats" (.ref b) (putF "pilots" (.ref p) []))))
  have ha3 : (upd (upd H2 a (.lst (fnL ps.length fun _ => V.int 0))) x (.ins C dx (putF "asked" (.ref a) (putF "boats" (.ref b) (putF "pilots" (.ref p) []))))) a = some (.lst (fnL ps.length fun _ => V.int 0)) := by rw [upd_ne nxa.symm]; exact upd_same
  have hx3 := upd_same (H := upd H2 a (.lst (fnL ps.length fun _ => V.int 0))) (a := x) (o := .ins C dx (putF "asked" (.ref a) (putF "boats" (.ref b) (putF "pilots" (.ref p) []))))
  generalize upd (upd H2 a (.lst (fnL ps.length fun _ => V.int 0))) x (.ins C dx (putF "asked" (.ref a) (putF "boats" (.ref b) (putF "pilots" (.ref p) [])))) = H3 at s3 ha3 hx3 ⊢
  refine ⟨_, rfl, b, rfl, ⟨_, SqL.of (s3 _ _ htb)⟩, fun o ho => comp_const (K := K) ho (by omega) (SqL.of (s3 _ _ htb)) ?_⟩
  have ho0 : H0 o = none := s3.free ho
  have nxo : x ≠ o := ne_of_none hx3 ho
  have nao : a ≠ o := ne_of_none ha3 ho
  refine ⟨_, rfl, x, C, dx, _, rfl, (by rw [upd_ne nxo]; exact hx3), T.cl, T.nO, Nat.lt_of_le_of_lt (length_putF _ _ _) (Nat.lt_of_le_of_lt (Nat.succ_le_succ (length_putF _ _ _)) (Nat.lt_of_le_of_lt (Nat.succ_le_succ (Nat.succ_le_succ (length_putF _ _ _))) (by show 3 < 1000; decide))), ?_⟩
  rw [ltb, ← fnL_const]
  refine q _ ⟨p, b, a, o, dx, rp, rb, ha0, ho0, nao, (s3.upd ho0 _).upd hx0 _, upd_same, ?_, ?_⟩
  · rw [upd_ne nxa.symm, upd_ne nao]
    exact ha3
  · rw [upd_ne nxo.symm]
    exact upd_same
theorem ok_Asking_has_boats_left {C : Addr} (F : Fun K "has_boats_left" "Asking.has_boats_left" s_Asking_has_boats_left f fd) (B : Bl mg) (T : AskT K C) : FnOk P w K mg base CX0 1 f fd ["self", "pilot"] (sp_has_boats_left C) := by
  refine F.ok sc_Asking_has_boats_left (fun vs H Q E h => ?_) (fun cdv A outer s H vs Q E hr h => ?_)
  · obtain ⟨x, q, ps, bs, nx, hd, H0, rfl, _⟩ := h
    rfl
  obtain ⟨x, q, ps, bs, nx, hd, H0, rfl, ⟨p, b, a, o, dx, S⟩, q0, q1, k⟩ := h
  refine ⟨_, (pss_one (ps_ret (pe_cmpR op_lt (pe_ix ix_list (pe_fld (pv 0) rfl) (pv 1) (fun _ _ => rfl)) (pe_callB call_len_seq rfl B.len PySem.boot_len (pa_cons (pe_ix ix_list (pe_fld (pv 0) rfl) (pv 1) (fun _ _ => rfl)) pa_nil)) (nomark _)))), ?_⟩
  obtain ⟨tps, r, htp, ax, hr'⟩ := (S.rp.same S.sm).at q0 q1
  refine ⟨_, rfl, x, C, dx, _, _, rfl, S.ob, T.cl, T.nA, flds_a, _, rfl, a, _, _, _, rfl, rfl, SqL.of S.ak, atI_fn q0 q1, ?_⟩
  refine ⟨_, rfl, x, C, dx, _, _, rfl, S.ob, T.cl, T.nP, flds_p, _, rfl, p, _, _, _, rfl, rfl, SqL.of htp, ax, r, _, rfl, .inl (SqL.of hr'), _, _, rfl, rfl, ?_⟩
  have e : decide ((nx q : Int) < (((iv (rw ps q)).length : Nat) : Int)) = decide (nx q < (gP ps q).length) := by
    rw [gP_of q0, show (iv (rw ps q)).length = (rw ps q).length from List.length_map _]
    exact decide_eq_decide.mpr (by omega)
  rw [← e] at k
  exact k
theorem ok_Asking_ask {C : Addr} (F : Fun K "ask" "Asking.ask" s_Asking_ask f fd) (B : Bl mg) (T : AskT K C) (C_rather : Cal P w K mg base 1 "rather" ["wishes", "one", "other"] (sp_rather K)) : FnOk P w K mg base CX0 2 f fd ["self", "pilot"] (sp_ask C) := by
  refine F.ok sc_Asking_ask (fun vs H Q E h => ?_) (fun cdv A outer s H vs Q E hr h => ?_)
  · obtain ⟨x, q, c, ps, bs, nx, hd, H0, rfl, _⟩ := h
    rfl
  obtain ⟨x, q, c, ps, bs, nx, hd, H0, rfl, ⟨p, b, a, o, dx, S⟩, q0, q1, G, op, ob, hc, k⟩ := h
  refine ⟨_, (pss_cons (ps_set (i := 2) sc_Asking_ask.nd rfl (by first | exact Or.inl rfl | exact Or.inr rfl) (pe_ix ix_list (pe_ix ix_list (pe_fld (pv 0) rfl) (pv 1) (fun _ _ => rfl)) (pe_ix ix_list (pe_fld (pv 0) rfl) (pv 1) (fun _ _ => rfl)) (fun _ _ => rfl)))
  (pss_cons (ps_asg (pe_op op_add (pe_ix ix_list (pe_fld (pv 0) rfl) (pv 1) (fun _ _ => rfl)) pe_int) (pg_sub (pe_fld (pv 0) rfl) (pv 1) set_list))
  (pss_cons (ps_set (i := 3) sc_Asking_ask.nd rfl (by first | exact Or.inl rfl | exact Or.inr rfl) (pe_ix ix_list (pe_fld (pv 0) rfl) (pv 2) (fun _ _ => rfl)))
  (pss_cons (ps_if (pt_not (pt_val (pe_cal C_rather (hr.mono (by decide)) rfl (pa_cons (pe_ix ix_list (pe_fld (pv 0) rfl) (pv 2) (fun _ _ => rfl)) (pa_cons (pv 1) (pa_cons (pv 3) pa_nil)))))) (pss_one (ps_ret (pv 1))) pss_nil)
  (pss_cons (ps_asg (pv 1) (pg_sub (pe_fld (pv 0) rfl) (pv 2) set_list))
  (pss_one (ps_ret (pv 3)))))))), ?_⟩
  obtain ⟨tps, r, htp, ax, hr'⟩ := (S.rp.same S.sm).at q0 q1
  obtain ⟨_, c0, c1⟩ := gP_mem op (List.mem_of_getElem? hc)
  have hcr : (iv (rw ps q))[nx q]? = some (.int c) := by
    rw [gP_of q0] at hc
    rw [iv, List.getElem?_map, hc]
    rfl
  -- boat
  refine ⟨_, rfl, x, C, dx, _, _, rfl, S.ob, T.cl, T.nP, flds_p, _, rfl, p, _, _, _, rfl, rfl, SqL.of htp, ax, ?_⟩
  refine ⟨_, rfl, x, C, dx, _, _, rfl, S.ob, T.cl, T.nA, flds_a, _, rfl, a, _, _, _, rfl, rfl, SqL.of S.ak, atI_fn q0 q1, r, _, _, _, rfl, rfl, SqL.of hr', atI_nat hcr, ?_⟩
  -- asked
  refine ⟨_, rfl, x, C, dx, _, _, rfl, S.ob, T.cl, T.nA, flds_a, _, rfl, a, _, _, _, rfl, rfl, SqL.of S.ak, atI_fn q0 q1, _, _, rfl, rfl, ?_⟩
  refine ⟨_, rfl, x, C, dx, _, _, rfl, S.ob, T.cl, T.nA, flds_a, _, rfl, a, _, _, _, rfl, rfl, S.ak, ixN_nat q0 (by rw [fnL_length]; exact q1), ?_⟩
  rw [set_spots q0]
  have S1 := S.putA (nx' := GS.up nx q)
  generalize upd H a (.lst (fnL ps.length fun r => V.int (GS.up nx q r : Int))) = H1 at S1 ⊢
  -- before
  refine ⟨_, rfl, x, C, dx, _, _, rfl, S1.ob, T.cl, T.nO, flds_o, _, rfl, o, _, _, _, rfl, rfl, SqL.of S1.po, atI_fn c0 c1, ?_⟩
  obtain ⟨tbs, r2, htb, ay, hr2⟩ := (S1.rb.same S1.sm).at c0 c1
  refine ⟨_, rfl, x, C, dx, _, _, rfl, S1.ob, T.cl, T.nB, flds_b, _, rfl, b, _, _, _, rfl, rfl, SqL.of htb, ay, _, rfl, _, rfl, r2, rw bs c, q, hd c, rfl, SqL.of hr2, fun H2 s2 => ⟨_, rfl, ?_⟩⟩
  have S2 := S1.same s2
  have ew : ratherB (rw bs c) q (hd c) = wantsB (gP bs c) q (hd c) := by
    rw [gP_of c0]
    refine rather_wants (ob.rw c).nd q fun y hy => ?_
    have := G.suitB hy
    rw [gP_of c0] at this
    exact this
  rw [ew]
  cases hw : wantsB (gP bs c) q (hd c) with
  | false =>
    refine iteT ?_
    exact ⟨_, rfl, (k H2).2 hw ⟨p, b, a, o, dx, S2⟩⟩
  | true =>
    refine iteF ?_
    refine ⟨_, rfl, _, rfl, x, C, dx, _, _, rfl, S2.ob, T.cl, T.nO, flds_o, _, rfl, o, _, _, _, rfl, rfl, S2.po, ixN_nat c0 (by rw [fnL_length]; exact c1), ?_⟩
    rw [set_has q c0]
    exact ⟨_, rfl, (k _).1 hw ⟨p, b, a, o, dx, S2.putO⟩⟩
theorem ok_Asking_ask_from {C : Addr} (F : Fun K "ask_from" "Asking.ask_from" s_Asking_ask_from f fd) (B : Bl mg) (T : AskT K C) (M_Asking_has_boats_left : CalM P w K mg base 1 C "has_boats_left" ["self", "pilot"] (sp_has_boats_left C))
    (M_Asking_ask : CalM P w K mg base 2 C "ask" ["self", "pilot"] (sp_ask C)) : FnOk P w K mg base CX0 3 f fd ["self", "pilot"] (sp_ask_from C) := by
  refine F.ok sc_Asking_ask_from (fun vs H Q E h => ?_) (fun cdv A outer s H vs Q E hr h => ?_)
  · obtain ⟨x, i, ps, bs, nx, hd, H0, rfl, _⟩ := h
    rfl
  obtain ⟨x, i, ps, bs, nx, hd, H0, rfl, S, i0, i1, op, ob, Pt, k⟩ := h
  refine ⟨_, (pss_cons (ps_set (i := 2) sc_Asking_ask_from.nd rfl (by first | exact Or.inl rfl | exact Or.inr rfl) (pv 1))
  (pss_one (ps_while PassesOwn.never (PW.pt (pw_and (pt_cmpR op_notN (pv 2) pe_non (nomark _)) (pw_and1 (pt_val (pe_calM (pv 0) T.cl M_Asking_has_boats_left (hr.mono (by decide)) (pa_cons (pv 2) pa_nil))))))
  (pss_one (ps_set (i := 2) sc_Asking_ask_from.nd rfl (by first | exact Or.inl rfl | exact Or.inr rfl) (pe_calM (pv 0) T.cl M_Asking_ask (hr.mono (by decide)) (pa_cons (pv 2) pa_nil))))))), ?_⟩
  have le : ∀ {nx : Int → Nat} {hd : Int → Option Int}, GS.Good (gP ps) (gP bs) nx hd → sumF ps.length nx ≤ sumF ps.length fun p => (gP ps p).length := fun G => sumF_le G.le _
  refine ⟨_, rfl, fun m σ H' => ∃ (al : Option Int) (nx : Int → Nat) (hd : Int → Option Int), σ = [some (.ref x), some (.int i), some (oV al)] ∧ AskS C H0 H' x ps bs nx hd ∧ Part ps bs (i + 1) al nx hd ∧ m + sumF ps.length nx = sumF ps.length fun p => (gP ps p).length,
    ⟨(sumF ps.length fun p => (gP ps p).length) - sumF ps.length nx, some i, nx, hd, rfl, S, Pt.next i0, by have := le Pt.g; omega⟩, ?_⟩
  clear S Pt nx hd H
  rintro m σ H ⟨al, nx, hd, rfl, S, Pt, hm⟩
  cases al with
  | none =>
    refine ⟨_, rfl, rfl, _, rfl, iteNS rfl (iteF ?_)⟩
    exact k nx hd H S Pt
  | some q =>
    obtain ⟨⟨q0, q1⟩, lone⟩ := Pt.al q rfl
    obtain ⟨p, b, a, o, dx, S'⟩ := id S
    refine ⟨_, rfl, rfl, _, rfl, iteNND (fun e => by cases e) ?_⟩
    refine ⟨_, rfl, x, dx, _, rfl, S'.ob, flds_has, _, rfl, x, q, ps, bs, nx, hd, H0, rfl, S, q0, by omega, _, rfl, ?_⟩
    refine ite2 (fun c => ?_) (fun c => ?_)
    · have c' : nx q < (gP ps q).length := of_decide_eq_true c
      have e := List.getElem?_eq_getElem c'
      refine ⟨fun σ' H' => ∃ m', m' < m ∧ ∃ (al : Option Int) (nx : Int → Nat) (hd : Int → Option Int), σ' = [some (.ref x), some (.int i), some (oV al)] ∧ AskS C H0 H' x ps bs nx hd ∧ Part ps bs (i + 1) al nx hd ∧ m' + sumF ps.length nx = sumF ps.length fun p => (gP ps p).length, fun σ' H' h => h, ?_⟩
      refine ⟨_, rfl, x, dx, _, rfl, S'.ob, flds_ask, _, rfl, x, q, _, ps, bs, nx, hd, H0, rfl, S, q0, by omega, Pt.g, op, ob, e, fun H' => ⟨fun w2 S2 => ?_, fun w2 S2 => ?_⟩⟩
      · have P2 := Pt.take op e w2
        have l2 := le P2.g
        rw [sumF_up q0 (by omega)] at l2
        exact ⟨m - 1, by omega, _, _, _, rfl, S2, P2, by rw [sumF_up q0 (by omega)]; omega⟩
      · have P2 := Pt.leave op e w2
        have l2 := le P2.g
        rw [sumF_up q0 (by omega)] at l2
        exact ⟨m - 1, by omega, some q, _, _, rfl, S2, P2, by rw [sumF_up q0 (by omega)]; omega⟩
    · have c' : ¬ nx q < (gP ps q).length := of_decide_eq_false (Bool.eq_false_iff.mpr c)
      exact k nx hd H S (Pt.fin fun r hr => by cases hr; exact c')
theorem ok_asking_in_the_end {C Cn Ct : Addr} (F : Fun K "asking_in_the_end" "asking_in_the_end" s_asking_in_the_end f fd) (B : Bl mg) (T : AskT K C) (C_refuse_wrong : CalX P w K mg base 2 "refuse_wrong" ["pilots", "boats"] (sp_refuse_wrong Cn Ct K))
    (N_Asking : CalN P w K mg base 1 "Asking" C ["self", "pilots", "boats"] (sp_init C)) (M_Asking_ask_from : CalM P w K mg base 3 C "ask_from" ["self", "pilot"] (sp_ask_from C)) : FnOk P w K mg base (CXE P w) 4 f fd ["pilots", "boats"] (sp_end C Cn Ct K) := by
  refine F.okX sc_asking_in_the_end (fun vs H Q E h => ?_) (fun cdv A outer s H vs Q E hr h => ?_)
  · obtain ⟨p, b, ps, bs, rfl, _⟩ := h
    rfl
  obtain ⟨p, b, ps, bs, rfl, rp, rb, l9, k9, sp, sb, R, k⟩ := h
  refine ⟨_, (pss_cons (ps_expr (pe_calX C_refuse_wrong (hr.mono (by decide)) rfl lv_of.pass (pa_cons (pv 0) (pa_cons (pv 1) pa_nil))))
  (pss_cons (ps_set (i := 2) sc_asking_in_the_end.nd rfl (by first | exact Or.inl rfl | exact Or.inr rfl) (pe_new N_Asking (hr.mono (by decide)) rfl (pa_cons (pv 0) (pa_cons (pv 1) pa_nil))))
  (pss_cons (ps_for lv_of.own rfl (pi_range1 rfl B.range (pa_cons (pe_callB call_len_seq rfl B.len PySem.boot_len (pa_cons (pv 0) pa_nil)) pa_nil)) (pg_name (i := 3) sc_asking_in_the_end.nd rfl (by first | exact Or.inl rfl | exact Or.inr rfl))
  (pss_one (ps_expr (pe_calM (pv 2) T.cl M_Asking_ask_from (hr.mono (by decide)) (pa_cons (pv 3) pa_nil)))))
  (pss_one (ps_ret (pv 2)))))), ?_⟩
  refine ⟨_, rfl, _, rfl, p, b, ps, bs, rfl, rp, rb, by omega, by omega, sp, sb, R, fun n1 n2 H1 s1 => ?_⟩
  have op : WOk ps bs.length := WOk.of (fun z => n1 (.inl z)) (fun z => n2 (.inl z)) sp
  have ob : WOk bs ps.length := WOk.of (fun z => n1 (.inr z)) (fun z => n2 (.inr z)) sb
  have rp1 := rp.same s1
  have rb1 := rb.same s1
  refine ⟨_, rfl, _, rfl, fun x dx hx hdx ndx => ?_⟩
  refine ⟨x, p, b, dx, ps, bs, H1, rfl, upd_same, hx, ((same_new hdx _).upd hx _), rp1, rb1, l9, k9, fun H2 S => ⟨rfl, ?_⟩⟩
  obtain ⟨tp, htp, ltp⟩ := rp1.top
  obtain ⟨_, _, _, _, _, S'⟩ := id S
  refine ⟨_, rfl, p, _, rfl, .inl (SqL.of (S'.sm _ _ htp)), _, rfl, by omega, by omega, for_range (lo := 0) (n := ((tp.length : Int)).toNat) (fun i σ H' => ∃ (nx : Int → Nat) (hd : Int → Option Int) (v3 : Option V), σ = [some (.ref p), some (.ref b), some (.ref x), v3] ∧
    AskS C H1 H' x ps bs nx hd ∧ Part ps bs (i : Int) none nx hd) ⟨_, _, none, rfl, S, Part.start ps bs⟩ ?_ ?_⟩
  · rintro i σ H' hi ⟨nx, hd, v3, rfl, S2, Pt⟩
    obtain ⟨_, _, _, _, dx2, S2'⟩ := id S2
    have ei : (0 : Int) + (i : Int) = (i : Int) := by omega
    rw [ei]
    refine ⟨_, rfl, x, dx2, _, rfl, S2'.ob, flds_from, _, rfl, x, (i : Int), ps, bs, nx, hd, H1, rfl, S2, by omega, by omega, op, ob, Pt, fun nx' hd' H'' S3 P3 => ?_⟩
    exact ⟨nx', hd', _, rfl, S3, by rw [show ((i + 1 : Nat) : Int) = (i : Int) + 1 by omega]; exact P3⟩
  · rintro σ H' ⟨nx, hd, v3, rfl, S2, Pt⟩
    have e : ((((tp.length : Int)).toNat : Nat) : Int) = (ps.length : Int) := by omega
    rw [e] at Pt
    exact ⟨_, rfl, k op ob x nx hd H' H1 s1 S2 Pt.g Pt.done⟩
theorem ok_paired {C Cn Ct : Addr} (F : Fun K "paired" "paired" s_paired f fd) (B : Bl mg) (T : AskT K C) (C_asking_in_the_end : CalX P w K mg base 4 "asking_in_the_end" ["pilots", "boats"] (sp_end C Cn Ct K)) : FnOk P w K mg base (CXE P w) 5 f fd ["pilots", "boats"] (sp_pairedX Cn Ct K) := by
  refine F.okX sc_paired (fun vs H Q E h => ?_) (fun cdv A outer s H vs Q E hr h => ?_)
  · obtain ⟨p, b, ps, bs, rfl, _⟩ := h
    rfl
  obtain ⟨p, b, ps, bs, rfl, rp, rb, l9, k9, sp, sb, R, k⟩ := h
  refine ⟨_, (pss_cons (ps_set (i := 2) sc_paired.nd rfl (by first | exact Or.inl rfl | exact Or.inr rfl) (pe_calX C_asking_in_the_end (hr.mono (by decide)) rfl lv_of.pass (pa_cons (pv 0) (pa_cons (pv 1) pa_nil))))
  (pss_one (ps_ret (pe_callB call_sortedP rfl B.sorted PyProof.Rows.boot_sorted (pa_cons (pe_comp2 [] [] rfl (pi_enum rfl B.enumerate (pa_cons (pe_fld (pv 2) rfl) pa_nil)) (fun C fp s₀ H₀ => pf_one (pt_cutT (pt_cmpR op_notN (pv 1) pe_non (nomark _)))) (fun C fp s₀ H₀ => pe_cutE (pe_tup (pa_cons (pv 1) (pa_cons (pv 0) pa_nil))))) pa_nil))))), ?_⟩
  refine ⟨_, rfl, _, rfl, p, b, ps, bs, rfl, rp, rb, l9, k9, sp, sb, R, fun op ob x nx hd H1 H0 s0 S G D => ?_⟩
  obtain ⟨p', b', a, o, dx, S⟩ := S
  have s1 := s0.trans S.sm
  refine ⟨_, rfl, x, C, dx, _, _, rfl, S.ob, T.cl, T.nO, flds_o, o, _, rfl, SqL.of S.po, fun L hL => ?_⟩
  have n1 : o ≠ L := ne_of_none S.po hL
  refine comp_enumT (K := K) (xs := fnL bs.length fun c => oV (hd c)) (fun i ys H2 => ∃ ts : List Addr, ys = ts.map V.ref ∧ Same H1 H2 ∧ PrsN H2 L ts (mineF hd i)) upd_same ⟨[], rfl, same_new hL _, PrsN.nil upd_same⟩ (by rw [fnL_length]; omega) (fun i ys H2 ⟨ts, _, s2, _⟩ => SqL.of (s2 _ _ S.po)) ?_ ?_
  · rintro i ys y t H2 hi ⟨ts, rfl, s2, hP⟩ hd2 hle ht
    have hil : i < bs.length := by have := (List.getElem?_eq_some_iff.mp hi).1; rw [fnL_length] at this; exact this
    rw [fnL_get _ hil] at hi
    have hy := Option.some.inj hi
    subst hy
    have st := same_new ht (.tup [.int (i : Int), oV (hd (i : Int))])
    have nL : L ≠ t := ne_of_none hd2 ht
    rw [mineF_succ]
    cases hc : hd (i : Int) with
    | none =>
      refine ⟨_, rfl, rfl, _, rfl, ?_⟩
      rw [hc] at st
      refine iteNS rfl ⟨by rw [upd_ne nL]; exact hd2, ts, rfl, s2.trans st, ?_⟩
      rw [List.append_nil]
      exact hP.same st
    | some q =>
      rw [hc] at st
      refine ⟨_, rfl, rfl, _, rfl, iteNND (fun e => by cases e) ?_⟩
      refine ⟨_, rfl, _, rfl, (by show 2 ≤ sizeLine; decide), fun t2 ht2 => ?_⟩
      have st2 := st.trans (same_new ht2 (.tup [V.int q, V.int (i : Int)]))
      have P2 := (hP.same st2).snoc (t := t2) (p := (q, (i : Int))) upd_same
      have hL2 := st2 _ _ hd2
      refine ⟨hL2, ts ++ [t2], by rw [List.map_append]; rfl, (s2.trans st2).upd hL _, P2⟩
  · rintro ys H2 ⟨ts, rfl, s2, hP⟩ hd2
    rw [fnL_length] at hP
    have hnd : ((mineF hd bs.length).map (·.1)).Nodup := by
      refine GS.nodup_map_on (mineF_nodup hd bs.length) fun u hu v hv e => ?_
      obtain ⟨_, _, e1⟩ := mem_mineF.mp (show (u.1, u.2) ∈ _ from hu)
      obtain ⟨_, _, e2⟩ := mem_mineF.mp (show (v.1, v.2) ∈ _ from hv)
      rw [e] at e1
      exact Prod.ext e (G.inj e1 e2)
    refine ⟨L, ts, mineF hd bs.length, rfl, hP, hnd, by have := mineF_len hd bs.length; omega, fun r prs' H3 hr3 s3 pm up hP3 => ?_⟩
    refine k op ob r prs' nx hd H3 (s1.trans (s2.trans s3)) hP3 G D ⟨fun u v => ?_, up⟩
    rw [pm.mem_iff, mem_mineF]
    exact ⟨fun h => h.2.2, fun h => ⟨(gP_mem op (G.has (gP_nd op) h).1).2.1, (gP_mem op (G.has (gP_nd op) h).1).2.2, h⟩⟩
theorem calm_paired {Cn Ct : Addr} (C : CalX P w K mg base 5 "paired" ["pilots", "boats"] (sp_pairedX Cn Ct K)) : Cal P w K mg base 20 "paired" ["pilots", "boats"] (sp_paired K) := by
  refine (C.mono (by decide)).calm fun vs H Q E h => ?_
  obtain ⟨p, b, ps, bs, rfl, rp, rb, l9, k9, op, ob, k⟩ := h
  exact ⟨p, b, ps, bs, rfl, rp, rb, l9, k9, fun l hl => (op l hl).sh, fun l hl => (ob l hl).sh, good_refuse op ob, fun _ _ => k⟩
theorem ok_askings {C Cn Ct : Addr} (F : Fun K "askings" "askings" s_askings f fd) (B : Bl mg) (T : AskT K C) (C_asking_in_the_end : CalX P w K mg base 4 "asking_in_the_end" ["pilots", "boats"] (sp_end C Cn Ct K)) : FnOk P w K mg base (CXE P w) 5 f fd ["pilots", "boats"] (sp_askingsX Cn Ct K) := by
  refine F.okX sc_askings (fun vs H Q E h => ?_) (fun cdv A outer s H vs Q E hr h => ?_)
  · obtain ⟨p, b, ps, bs, rfl, _⟩ := h
    rfl
  obtain ⟨p, b, ps, bs, rfl, rp, rb, l9, k9, sp, sb, R, k⟩ := h
  refine ⟨_, (pss_one (ps_ret (pe_callB (call_sumI rfl) rfl B.sum PyProof.Rows.boot_sum (pa_cons (pe_fld (pe_calX C_asking_in_the_end (hr.mono (by decide)) rfl lv_of.pass (pa_cons (pv 0) (pa_cons (pv 1) pa_nil))) rfl) pa_nil)))), ?_⟩
  refine ⟨_, rfl, _, rfl, p, b, ps, bs, rfl, rp, rb, l9, k9, sp, sb, R, fun op ob x nx hd H1 H0 s0 S G D => ?_⟩
  obtain ⟨p', b', a, o, dx, S⟩ := S
  refine ⟨x, C, dx, _, _, rfl, S.ob, T.cl, T.nA, flds_a, a, fnL ps.length (fun q => (nx q : Int)), rfl, ?_, ?_⟩
  · have := S.ak
    rw [← fnL_map ps.length (fun q => (nx q : Int)) V.int] at this
    exact SqL.of this
  · rw [sum_fnL]
    exact k op ob nx hd H1 (s0.trans S.sm) G D
theorem calm_askings {Cn Ct : Addr} (C : CalX P w K mg base 5 "askings" ["pilots", "boats"] (sp_askingsX Cn Ct K)) : Cal P w K mg base 20 "askings" ["pilots", "boats"] (sp_askings K) := by
  refine (C.mono (by decide)).calm fun vs H Q E h => ?_
  obtain ⟨p, b, ps, bs, rfl, rp, rb, l9, k9, op, ob, k⟩ := h
  exact ⟨p, b, ps, bs, rfl, rp, rb, l9, k9, fun l hl => (op l hl).sh, fun l hl => (ob l hl).sh, good_refuse op ob, fun _ _ => k⟩
theorem ok_loose {Cn Ct : Addr} (F : Fun K "loose" "loose" s_loose f fd) (B : Bl mg) (C_refuse_wrong : CalX P w K mg base 2 "refuse_wrong" ["pilots", "boats"] (sp_refuse_wrong Cn Ct K)) (C_rather : Cal P w K mg base 1 "rather" ["wishes", "one", "other"] (sp_rather K)) :
    FnOk P w K mg base (CXE P w) 3 f fd ["pilots", "boats", "pairs"] (sp_looseX Cn Ct K) := by
  refine F.okX sc_loose (fun vs H Q E h => ?_) (fun cdv A outer s H vs Q E hr h => ?_)
  · obtain ⟨p, b, a, ps, bs, prs, rfl, _⟩ := h
    rfl
  obtain ⟨p, b, a, ps, bs, prs, rfl, rp, rb, hP, l9, k9, sp, sb, O, nd1, nd2, R, k⟩ := h
  refine ⟨_, (pss_cons (ps_expr (pe_calX C_refuse_wrong (hr.mono (by decide)) rfl lv_of.pass (pa_cons (pv 0) (pa_cons (pv 1) pa_nil))))
  (pss_cons (ps_set (i := 3) sc_loose.nd rfl (by first | exact Or.inl rfl | exact Or.inr rfl) (pe_callTy (call_dictP rfl) rfl B.dict PyProof.Rows.boot_dict (pa_cons (pv 2) pa_nil)))
  (pss_cons (ps_set (i := 4) sc_loose.nd rfl (by first | exact Or.inl rfl | exact Or.inr rfl) (pe_callTy (call_dictP rfl) rfl B.dict PyProof.Rows.boot_dict (pa_cons (pe_comp2 [] [] rfl (pi_list (pv 2)) (fun C fp s₀ H₀ => pf_nil) (fun C fp s₀ H₀ => pe_cutE (pe_tup (pa_cons (pv 1) (pa_cons (pv 0) pa_nil))))) pa_nil)))
  (pss_cons (ps_set (i := 5) sc_loose.nd rfl (by first | exact Or.inl rfl | exact Or.inr rfl) (pe_lst pa_nil))
  (pss_cons (ps_for lv_of.own rfl (pi_enum rfl B.enumerate (pa_cons (pv 0) pa_nil)) (pg_tup (n := 2) rfl (pgs_cons (pg_name (i := 6) sc_loose.nd rfl (by first | exact Or.inl rfl | exact Or.inr rfl)) (pgs_cons (pg_name (i := 7) sc_loose.nd rfl (by first | exact Or.inl rfl | exact Or.inr rfl)) pgs_nil)))
  (pss_one (ps_for lv_of.own rfl (pi_list (pe_callB call_sortedI rfl B.sorted PyProof.Rows.boot_sorted (pa_cons (pv 7) pa_nil))) (pg_name (i := 8) sc_loose.nd rfl (by first | exact Or.inl rfl | exact Or.inr rfl))
  (pss_cons (ps_set (i := 9) sc_loose.nd rfl (by first | exact Or.inl rfl | exact Or.inr rfl) (pe_cal C_rather (hr.mono (by decide)) rfl (pa_cons (pv 7) (pa_cons (pv 8) (pa_cons (pe_bm PySem.F.plainAttrs_dict PySem.F.slot_dict_get PySem.F.type_dict_get mt_dget (pv 3) (pa_cons (pv 6) pa_nil)) pa_nil)))))
  (pss_one (ps_if (PW.pt (pw_and (pt_val (pv 9)) (pw_and1 (pt_val (pe_cal C_rather (hr.mono (by decide)) rfl (pa_cons (pe_ix ix_list (pv 1) (pv 8) (fun _ _ => rfl)) (pa_cons (pv 6) (pa_cons (pe_bm PySem.F.plainAttrs_dict PySem.F.slot_dict_get PySem.F.type_dict_get mt_dget (pv 4) (pa_cons (pv 8) pa_nil)) pa_nil)))))))) (pss_one (ps_expr (pe_bm PySem.F.plainAttrs_list PySem.F.slot_list_append PySem.F.type_list_append mt_append (pv 5) (pa_cons (pe_tup (pa_cons (pv 6) (pa_cons (pv 8) pa_nil))) pa_nil)))) pss_nil))))))
  (pss_one (ps_ret (pv 5)))))))), ?_⟩
  refine ⟨_, rfl, _, rfl, p, b, ps, bs, rfl, rp, rb, by omega, by omega, sp, sb, R, fun n1 n2 H1 s1 => ?_⟩
  have op : WOk ps bs.length := WOk.of (fun z => n1 (.inl z)) (fun z => n2 (.inl z)) sp
  have ob : WOk bs ps.length := WOk.of (fun z => n1 (.inr z)) (fun z => n2 (.inr z)) sb
  have k := k op ob
  clear R n1 n2
  have rp1 := rp.same s1
  have rb1 := rb.same s1
  obtain ⟨ts, hT⟩ := hP.same s1
  have lp9 : prs.length ≤ 9 := by
    have := len_le_of_range nd1 (n := ps.length) fun x hx => by
      obtain ⟨pr, h, rfl⟩ := List.mem_map.mp hx
      exact O.r1 pr h
    rw [List.length_map] at this
    omega
  -- boat_of
  refine ⟨_, rfl, a, ts, prs, rfl, hT, nd1, by omega, fun d1 hd1 => ?_⟩
  have s2 := same_new hd1 (.dK (dV prs))
  have g1 := upd_same (H := H1) (a := d1) (o := .dK (dV prs))
  generalize upd H1 d1 (.dK (dV prs)) = H2 at s2 g1 ⊢
  -- pilot_of
  refine ⟨_, rfl, a, rfl, ⟨_, SqL.of (s2 _ _ hT.top)⟩, fun L hL => comp_swap (hT.same s2) hL (by omega) fun ts2 H3 s3 hT2 => ?_⟩
  refine ⟨L, ts2, prs.map fun pr => (pr.2, pr.1), rfl, hT2, by rw [List.map_map]; exact nd2, by rw [List.length_map]; omega, fun d2 hd2 => ?_⟩
  have s4 := same_new hd2 (.dK (dV (prs.map fun pr => (pr.2, pr.1))))
  have g2 := upd_same (H := H3) (a := d2) (o := .dK (dV (prs.map fun pr => (pr.2, pr.1))))
  generalize upd H3 d2 (.dK (dV (prs.map fun pr => (pr.2, pr.1)))) = H4 at s4 g2 ⊢
  have g14 := s4 _ _ (s3 _ _ g1)
  have s14 := s2.trans (s3.trans s4)
  -- found
  refine ⟨(by show 0 ≤ sizeLine; decide), fun r hr0 => ?_⟩
  have rp4 := rp1.same s14
  have rb4 := rb1.same s14
  have s04 := s1.trans s14
  clear hT hT2 hd1 hL hd2 g1 s2 s3 s4 rp1 rb1 s14
  obtain ⟨as, rn⟩ := rp4
  refine ⟨_, rfl, p, _, rfl, SqL.of ((same_new hr0 _) _ _ rn.top), for_enum (K := K) (a := p) (xs := as.map V.ref) (fun i σ H' => ∃ (ts : List Addr) (v6 v7 v8 v9 : Option V), σ = [some (.ref p), some (.ref b), some (.ref a), some (.ref d1), some (.ref d2), some (.ref r), v6, v7, v8, v9] ∧ Same H4 H' ∧ PrsN H' r ts (lzAll ps bs prs i))
    ⟨[], none, none, none, none, rfl, same_new hr0 _, PrsN.nil upd_same⟩ (fun i σ H' _ ⟨_, _, _, _, _, _, s', _⟩ => SqL.of (s' _ _ rn.top)) ?_ ?_⟩
  · rintro i y t σ H' hi ⟨ts', v6, v7, v8, v9, rfl, s', hR⟩ ht
    obtain ⟨ro, hro, rfl⟩ := get_ref hi
    have hil : i < ps.length := by rw [← rn.len]; exact (List.getElem?_eq_some_iff.mp hro).1
    have i0 : (0 : Int) ≤ (i : Int) := by omega
    have i1 : (i : Int) < (ps.length : Int) := by omega
    have erw : rw ps (i : Int) = ps[i] := by
      unfold L2.rw
      rw [Int.toNat_natCast, List.getD_eq_getElem?_getD, List.getElem?_eq_getElem hil]
      rfl
    have hrow := s' _ _ (rn.row i ro _ hro (List.getElem?_eq_getElem hil))
    rw [← erw] at hrow
    have st := same_new ht (.tup [.int (i : Int), .ref ro])
    refine ⟨t, _, rfl, SqT.of upd_same, rfl, _, _, rfl, _, _, rfl, rfl, ?_⟩
    have hrow2 := st _ _ hrow
    have hR2 := hR.same st
    have s2 := s'.trans st
    generalize upd H' t (.tup [.int (i : Int), .ref ro]) = H5 at hrow2 hR2 s2 ⊢
    have wl := op.rw (i : Int)
    have wlen : (rw ps (i : Int)).length ≤ 9 := by
      have := len_le_of_range wl.nd (n := bs.length) wl.rg
      omega
    refine ⟨_, rfl, ro, rw ps (i : Int), rfl, SqL.of hrow2, by omega, fun q ns' hq pm pw => ?_⟩
    have sq := same_new hq (.lst (iv ns'))
    have nlen : ns'.length ≤ 9 := by rw [pm.length_eq]; exact wlen
    have s6 := s2.trans sq
    have hrow6 := sq _ _ hrow2
    have hR6 := hR2.same sq
    have hq6 := upd_same (H := H5) (a := q) (o := .lst (iv ns'))
    generalize upd H5 q (.lst (iv ns')) = H6 at sq s6 hrow6 hR6 hq6 ⊢
    have esel : (ns'.filter fun c => lz ps bs prs (i : Int) c).map (fun c => ((i : Int), c)) = lzRow ps bs prs (i : Int) bs.length := lz_sel pm pw wl
    refine ⟨q, rfl, ⟨_, SqL.of hq6⟩, for_list (K := K) (a := q) (xs := iv ns') (fun j σ H'' => ∃ (ts : List Addr) (v8 v9 : Option V), σ = [some (.ref p), some (.ref b), some (.ref a), some (.ref d1), some (.ref d2), some (.ref r), some (.int (i : Int)), some (.ref ro), v8, v9] ∧ Same H4 H'' ∧ H'' q = some (.lst (iv ns')) ∧ H'' ro = some (.lst (iv (rw ps (i : Int)))) ∧
      PrsN H'' r ts (lzAll ps bs prs i ++ ((ns'.take j).filter fun c => lz ps bs prs (i : Int) c).map fun c => ((i : Int), c)))
      ⟨ts', v8, v9, rfl, s6, hq6, hrow6, by rw [List.take_zero, List.filter_nil, List.map_nil, List.append_nil]; exact hR6⟩ (fun j σ H'' _ ⟨_, _, _, _, _, h, _⟩ => SqL.of h) ?_ ?_⟩
    · clear hR6 hrow6 s6 hq6 sq hR2 hrow2 s2 st hR s' hrow ts'
      rintro j z σ H7 hj ⟨ts', v8', v9', rfl, s7, hq7, hro7, hR7⟩
      obtain ⟨c, hc, rfl⟩ := get_iv hj
      have hcn : c ∈ ns' := List.mem_of_getElem? hc
      have hcr : c ∈ rw ps (i : Int) := pm.mem_iff.mp hcn
      obtain ⟨c0, c1⟩ := wl.rg c hcr
      have hjl := (List.getElem?_eq_some_iff.mp hc).1
      have m1 := find_mate O.r1 nd1 i0 i1
      have m2 := find_mate1 O.r2 nd2 c0 c1
      refine ⟨_, rfl, _, rfl, _, rfl, .inr (.inr (.inl ⟨rfl, .inl ⟨_, s7 _ _ g14⟩⟩)), _, rfl, d1, prs, (i : Int), rfl, rfl, s7 _ _ g14, ro, rw ps (i : Int), c, _, rfl, SqL.of hro7, fun H8 s8 => ?_⟩
      rw [m1, rather_wants wl.nd c (fun y hy => mate_mem O i0 hy)]
      have s48 := s7.trans s8
      obtain ⟨tbs, rc, htb, ay, hrc⟩ := (rb4.same s48).at c0 c1
      have tak : (ns'.take (j + 1)).filter (fun c => lz ps bs prs (i : Int) c) = (ns'.take j).filter (fun c => lz ps bs prs (i : Int) c) ++ (if lz ps bs prs (i : Int) c = true then [c] else []) := by
        rw [List.take_succ_eq_append_getElem hjl, List.filter_append, (List.getElem?_eq_some_iff.mp hc).2, List.filter_cons, List.filter_nil]
      refine ⟨_, rfl, _, rfl, ?_⟩
      refine ite2 (fun w1 => ?_) (fun w1 => ?_)
      · refine ⟨_, rfl, _, rfl, b, _, _, _, rfl, rfl, SqL.of htb, ay, _, rfl, _, rfl, .inr (.inr (.inl ⟨rfl, .inl ⟨_, s48 _ _ g2⟩⟩)), _, rfl, d2, prs.map (fun pr => (pr.2, pr.1)), c, rfl, rfl, s48 _ _ g2, rc, rw bs c, (i : Int), _, rfl, SqL.of hrc, fun H9 s9 => ⟨_, rfl, ?_⟩⟩
        rw [m2, rather_wants (ob.rw c).nd (i : Int) (fun y hy => mate_mem1 O c0 hy)]
        have s49 := s48.trans s9
        have hR9 := hR7.same (s8.trans s9)
        refine ite2 (fun w2 => ?_) (fun w2 => ?_)
        · have hlz : lz ps bs prs (i : Int) c = true := by
            unfold lz
            rw [w1, w2]
            rfl
          rw [if_pos hlz] at tak
          refine ⟨_, rfl, .inl ⟨rfl, _, SqL.of hR9.top⟩, _, rfl, _, rfl, (by show 2 ≤ sizeLine; decide), fun t2 ht2 => ?_⟩
          have st2 := same_new ht2 (.tup [V.int (i : Int), V.int c])
          have hlen : (lzAll ps bs prs i ++ ((ns'.take j).filter fun c => lz ps bs prs (i : Int) c).map fun c => ((i : Int), c)).length < 1000 := by
            have a1 := lzAll_len ps bs prs i
            have a3 : i * bs.length ≤ 9 * 9 := Nat.mul_le_mul (by omega) k9
            have a4 : ((ns'.take j).filter fun c => lz ps bs prs (i : Int) c).length ≤ 9 := Nat.le_trans (List.length_filter_le _ _) (by rw [List.length_take]; omega)
            rw [List.length_append, List.length_map]
            omega
          refine ⟨r, _, _, rfl, rfl, (hR9.same st2).top, (by rw [List.length_map, hR9.len]; exact small1000 (Nat.le_of_lt hlen)), ?_⟩
          have R2 := (hR9.same st2).snoc (t := t2) (p := ((i : Int), c)) upd_same
          have s410 := (s49.trans st2).upd hr0 (.lst (ts'.map V.ref ++ [.ref t2]))
          have nq : q ≠ r := ne_ir hq7 hcn hR7.top
          have nro : ro ≠ r := ne_ir hro7 hcr hR7.top
          refine ⟨ts' ++ [t2], _, _, rfl, s410, by rw [upd_ne nq]; exact st2 _ _ (s9 _ _ (s8 _ _ hq7)), by rw [upd_ne nro]; exact st2 _ _ (s9 _ _ (s8 _ _ hro7)), ?_⟩
          rw [tak, List.map_append, ← List.append_assoc]
          exact R2
        · have hlz : ¬ lz ps bs prs (i : Int) c = true := fun z => by
            unfold lz at z
            rw [Bool.and_eq_true] at z
            exact w2 z.2
          rw [if_neg hlz, List.append_nil] at tak
          exact ⟨ts', _, _, rfl, s49, s9 _ _ (s8 _ _ hq7), s9 _ _ (s8 _ _ hro7), by rw [tak]; exact hR9⟩
      · have hlz : ¬ lz ps bs prs (i : Int) c = true := fun z => by
          unfold lz at z
          rw [Bool.and_eq_true] at z
          exact w1 z.1
        rw [if_neg hlz, List.append_nil] at tak
        refine iteF ?_
        exact ⟨ts', _, _, rfl, s48, s8 _ _ hq7, s8 _ _ hro7, by rw [tak]; exact hR7.same s8⟩
    · rintro σ H7 ⟨ts', v8', v9', rfl, s7, hq7, hro7, hR7⟩
      rw [show (iv ns').length = ns'.length from List.length_map _, List.take_length, esel, ← lzAll_succ] at hR7
      exact ⟨ts', _, _, _, _, rfl, s7, hR7⟩
  · rintro σ H' ⟨ts', v6, v7, v8, v9, rfl, s', hR⟩
    rw [List.length_map, rn.len] at hR
    exact ⟨_, rfl, k r H' (s04.trans s') ⟨ts', hR⟩⟩
theorem ok_stays {Cn Ct : Addr} (F : Fun K "stays" "stays" s_stays f fd) (B : Bl mg) (C_loose : CalX P w K mg base 3 "loose" ["pilots", "boats", "pairs"] (sp_looseX Cn Ct K)) : FnOk P w K mg base (CXE P w) 4 f fd ["pilots", "boats", "pairs"] (sp_staysX Cn Ct K) := by
  refine F.okX sc_stays (fun vs H Q E h => ?_) (fun cdv A outer s H vs Q E hr h => ?_)
  · obtain ⟨p, b, a, ps, bs, prs, rfl, _⟩ := h
    rfl
  obtain ⟨p, b, a, ps, bs, prs, rfl, rp, rb, hP, l9, k9, sp, sb, O, nd1, nd2, R, k⟩ := h
  refine ⟨_, (pss_one (ps_ret (pe_cmpR (op_eqL hr.units0) (pe_calX C_loose (hr.mono (by decide)) rfl lv_of.pass (pa_cons (pv 0) (pa_cons (pv 1) (pa_cons (pv 2) pa_nil)))) (pe_lst pa_nil) (nomark _)))), ?_⟩
  refine ⟨_, rfl, _, rfl, _, rfl, p, b, a, ps, bs, prs, rfl, rp, rb, hP, l9, k9, sp, sb, O, nd1, nd2, R, fun op ob r H1 s1 hP1 => ?_⟩
  refine ⟨(by show 0 ≤ sizeLine; decide), fun e he => ?_⟩
  have se := same_new he (.lst [])
  obtain ⟨ts, hT⟩ := hP1
  refine ⟨r, e, _, _, rfl, rfl, SqL.of (se _ _ hT.top), SqL.of upd_same, ?_⟩
  have q := k op ob _ (s1.trans se)
  by_cases c : lzAll ps bs prs ps.length = []
  · rw [decide_eq_true c] at q
    have ets : ts = [] := List.eq_nil_of_length_eq_zero (by rw [hT.len, c]; rfl)
    subst ets
    exact .inr ⟨rfl, rfl, rfl, q⟩
  · rw [decide_eq_false c] at q
    refine .inl ⟨?_, q⟩
    rw [List.length_map, hT.len]
    exact fun z => c (List.eq_nil_of_length_eq_zero z)
theorem calm_loose {Cn Ct : Addr} (C : CalX P w K mg base 3 "loose" ["pilots", "boats", "pairs"] (sp_looseX Cn Ct K)) : Cal P w K mg base 20 "loose" ["pilots", "boats", "pairs"] (sp_loose K) := by
  refine (C.mono (by decide)).calm fun vs H Q E h => ?_
  obtain ⟨p, b, a, ps, bs, prs, rfl, rp, rb, hP, l9, k9, op, ob, O, nd1, nd2, k⟩ := h
  exact ⟨p, b, a, ps, bs, prs, rfl, rp, rb, hP, l9, k9, fun l hl => (op l hl).sh, fun l hl => (ob l hl).sh, O, nd1, nd2, good_refuse op ob, fun _ _ => k⟩
theorem calm_stays {Cn Ct : Addr} (C : CalX P w K mg base 4 "stays" ["pilots", "boats", "pairs"] (sp_staysX Cn Ct K)) : Cal P w K mg base 20 "stays" ["pilots", "boats", "pairs"] (sp_stays K) := by
  refine (C.mono (by decide)).calm fun vs H Q E h => ?_
  obtain ⟨p, b, a, ps, bs, prs, rfl, rp, rb, hP, l9, k9, op, ob, O, nd1, nd2, k⟩ := h
  exact ⟨p, b, a, ps, bs, prs, rfl, rp, rb, hP, l9, k9, fun l hl => (op l hl).sh, fun l hl => (ob l hl).sh, O, nd1, nd2, good_refuse op ob, fun _ _ => k⟩
theorem cls_some {K : PySem.W.Frag} {C : Addr} {b : Value} {r : Bool} (h : PySem.W.mroIn K C b = some r) : (PySem.W.clsIn K C).isSome = true := by
  unfold PySem.W.mroIn at h
  cases e : PySem.W.clsIn K C with
  | none => rw [e] at h; cases h
  | some _ => rfl
theorem ref_paired {Cn Ct : Addr} (C : CalX P w K mg base 5 "paired" ["pilots", "boats"] (sp_pairedX Cn Ct K)) : CalX P w K mg base 20 "paired" ["pilots", "boats"] (sp_ref2 Cn Ct K) := by
  refine (C.mono (by decide)).imp fun vs H Q E h => ?_
  obtain ⟨p, b, ps, bs, rfl, rp, rb, l9, k9, sp, sb, R, k⟩ := h
  exact ⟨p, b, ps, bs, rfl, rp, rb, l9, k9, sp, sb, R, fun op ob r prs nx hd H' s' _ _ _ _ => k (fun z => z.elim op.fits.1 ob.fits.1) (fun z => z.elim op.fits.2 ob.fits.2) _ H' s'⟩
theorem ref_askings {Cn Ct : Addr} (C : CalX P w K mg base 5 "askings" ["pilots", "boats"] (sp_askingsX Cn Ct K)) : CalX P w K mg base 20 "askings" ["pilots", "boats"] (sp_ref2 Cn Ct K) := by
  refine (C.mono (by decide)).imp fun vs H Q E h => ?_
  obtain ⟨p, b, ps, bs, rfl, rp, rb, l9, k9, sp, sb, R, k⟩ := h
  exact ⟨p, b, ps, bs, rfl, rp, rb, l9, k9, sp, sb, R, fun op ob nx hd H' s' _ _ => k (fun z => z.elim op.fits.1 ob.fits.1) (fun z => z.elim op.fits.2 ob.fits.2) _ H' s'⟩
theorem pin_nil (ps bs : List (List Int)) : PIn ps bs [] := ⟨fun _ h => (by cases h), fun _ h => (by cases h), fun _ h => (by cases h), fun _ h => (by cases h)⟩
theorem ref_loose {Cn Ct : Addr} (C : CalX P w K mg base 3 "loose" ["pilots", "boats", "pairs"] (sp_looseX Cn Ct K)) : CalX P w K mg base 20 "loose" ["pilots", "boats", "pairs"] (sp_ref3 Cn Ct K) := by
  refine (C.mono (by decide)).imp fun vs H Q E h => ?_
  obtain ⟨p, b, a, ps, bs, rfl, rp, rb, hP, l9, k9, sp, sb, R, k⟩ := h
  exact ⟨p, b, a, ps, bs, [], rfl, rp, rb, hP, l9, k9, sp, sb, pin_nil ps bs, List.nodup_nil, List.nodup_nil, R, fun op ob r H' s' _ => k (fun z => z.elim op.fits.1 ob.fits.1) (fun z => z.elim op.fits.2 ob.fits.2) _ H' s'⟩
theorem ref_stays {Cn Ct : Addr} (C : CalX P w K mg base 4 "stays" ["pilots", "boats", "pairs"] (sp_staysX Cn Ct K)) : CalX P w K mg base 20 "stays" ["pilots", "boats", "pairs"] (sp_ref3 Cn Ct K) := by
  refine (C.mono (by decide)).imp fun vs H Q E h => ?_
  obtain ⟨p, b, a, ps, bs, rfl, rp, rb, hP, l9, k9, sp, sb, R, k⟩ := h
  exact ⟨p, b, a, ps, bs, [], rfl, rp, rb, hP, l9, k9, sp, sb, pin_nil ps bs, List.nodup_nil, List.nodup_nil, R, fun op ob H' s' => k (fun z => z.elim op.fits.1 ob.fits.1) (fun z => z.elim op.fits.2 ob.fits.2) _ H' s'⟩
def sp_l_whole (K : PySem.W.Frag) : Sp := fun vs H Q _ => ∃ i : Int, vs = [.int i] ∧ Q (.bl true) H
theorem ok_l_whole (F : Fun K "_law_whole" "_law_whole" s_l_whole f fd) (B : Bl mg) : FnOk P w K mg base CX0 1 f fd ["_law_found"] (sp_l_whole K) := by
  refine F.ok sc_l_whole (fun vs H Q E h => ?_) (fun cdv A outer s H vs Q E hr h => ?_)
  · obtain ⟨i, rfl, _⟩ := h
    rfl
  obtain ⟨i, rfl, q⟩ := h
  refine ⟨_, (pss_one (ps_ret (pe_and (pe_callB call_isi rfl B.isinstance PyProof.Rows.boot_isinstance (pa_cons (pv 0) (pa_cons (pe_bltn (v := .ty "int") rfl B.int PyProof.Rows.boot_int rfl) pa_nil))) (pe_one (pe_not (pe_callB call_isi rfl B.isinstance PyProof.Rows.boot_isinstance (pa_cons (pv 0) (pa_cons (pe_bltn (v := .ty "bool") rfl B.bool PyProof.Rows.boot_bool rfl) pa_nil)))))))), ?_⟩
  refine ⟨_, rfl, _, _, _, _, rfl, TyOf.int i, kit_ii, true, rfl, ?_⟩
  refine iteT ?_
  exact ⟨_, rfl, _, _, _, _, rfl, TyOf.int i, kit_ib, false, rfl, q⟩
def sp_l_at (K : PySem.W.Frag) : Sp := fun vs H Q _ => ∃ (a : Addr) (ns : List Int) (k : Int), vs = [.ref a, .int k] ∧ SqL K H a (iv ns) ∧ 0 ≤ k ∧ Q (.int (ns.getD k.toNat 0)) H
theorem ok_l_at (F : Fun K "_law_at" "_law_at" s_l_at f fd) (B : Bl mg) : FnOk P w K mg base CX0 1 f fd ["_law_script", "_law_k"] (sp_l_at K) := by
  refine F.ok sc_l_at (fun vs H Q E h => ?_) (fun cdv A outer s H vs Q E hr h => ?_)
  · obtain ⟨a, ns, k, rfl, _⟩ := h
    rfl
  obtain ⟨a, ns, k, rfl, hS, h0, q⟩ := h
  refine ⟨_, (pss_cons (ps_if (pt_cmpR op_lt (pv 1) (pe_callB call_len_seq rfl B.len PySem.boot_len (pa_cons (pv 0) pa_nil)) (nomark _)) (pss_one (ps_ret (pe_ix ix_list (pv 0) (pv 1) (fun _ _ => rfl)))) pss_nil)
  (pss_one (ps_ret pe_int))), ?_⟩
  refine ⟨_, rfl, _, rfl, a, _, rfl, .inl hS, _, _, rfl, rfl, _, rfl, ?_⟩
  have hl : (iv ns).length = ns.length := List.length_map _
  refine ite2 (fun c => ?_) (fun c => ?_)
  · have c' : k < (((iv ns).length : Nat) : Int) := of_decide_eq_true c
    rw [hl] at c'
    exact ⟨_, rfl, _, rfl, a, _, _, _, rfl, rfl, hS, atI_ints h0 c', q⟩
  · have c' : ¬ k < (((iv ns).length : Nat) : Int) := of_decide_eq_false (Bool.eq_false_iff.mpr c)
    rw [hl] at c'
    have e : ns.getD k.toNat 0 = 0 := by
      rw [List.getD_eq_getElem?_getD, List.getElem?_eq_none_iff.mpr (by omega)]
      rfl
    rw [e] at q
    exact q
def sp_l_sides (K : PySem.W.Frag) : Sp := fun vs H Q _ => ∃ (c : Addr) (cs : List Int) (n m : Int), vs = [.ref c, .int n, .int m] ∧ SqL K H c (iv cs) ∧ cs.length ≤ 63 ∧ 0 ≤ n ∧ n ≤ 100 ∧ 0 ≤ m ∧ m ≤ 100 ∧
  ∀ (t p b : Addr) (as as' : List Addr) (ps bs : List (List Int)) (H' : Hp), Same H H' → H' t = some (.tup [.ref p, .ref b]) → RowsN H' p as ps → RowsN H' b as' bs → ps.length = n.toNat → bs.length = m.toNat → WOk ps m.toNat → WOk bs n.toNat →
    (p :: b :: (as ++ as')).Nodup → (∀ x ∈ p :: b :: (as ++ as'), H x = none) → Q (.ref t) H'
theorem ok_l_sides (F : Fun K "_law_sides" "_law_sides" s_l_sides f fd) (B : Bl mg) : FnOk P w K mg base CX0 1 f fd ["_law_cells", "_law_first", "_law_second"] (sp_l_sides K) := by
  refine F.ok sc_l_sides (fun vs H Q E h => ?_) (fun cdv A outer s H vs Q E hr h => ?_)
  · obtain ⟨c, cs, n, m, rfl, _⟩ := h
    rfl
  obtain ⟨c, cs, n, m, rfl, hS, h63, n0, n1, m0, m1, q⟩ := h
  refine ⟨_, (pss_cons (ps_setC (i := 3) sc_l_sides.nd rfl rfl [] [] rfl (pi_range1 rfl B.range (pa_cons (pv 1) pa_nil)) (fun C fp s₀ H₀ => pf_nil) (fun C fp s₀ H₀ => pe_cutE (pe_lst pa_nil)))
  (pss_cons (ps_setC (i := 4) sc_l_sides.nd rfl rfl [] [] rfl (pi_range1 rfl B.range (pa_cons (pv 2) pa_nil)) (fun C fp s₀ H₀ => pf_nil) (fun C fp s₀ H₀ => pe_cutE (pe_lst pa_nil)))
  (pss_cons (ps_if (PW.pt (pw_or (pt_cmpR op_eq (pv 1) pe_int (nomark _)) (pw_or1 (pt_cmpR op_eq (pv 2) pe_int (nomark _))))) (pss_one (ps_ret (pe_tup (pa_cons (pv 3) (pa_cons (pv 4) pa_nil))))) pss_nil)
  (pss_cons (ps_for PassesOwn.never rfl (pi_range1 rfl B.range (pa_cons (pe_callB call_len_seq rfl B.len PySem.boot_len (pa_cons (pv 0) pa_nil)) pa_nil)) (pg_name (i := 5) sc_l_sides.nd rfl (by first | exact Or.inl rfl | exact Or.inr rfl))
  (pss_cons (ps_set (i := 6) sc_l_sides.nd rfl (by first | exact Or.inl rfl | exact Or.inr rfl) (pe_ix ix_list (pv 0) (pv 5) (fun _ _ => rfl)))
  (pss_cons (ps_set (i := 7) sc_l_sides.nd rfl (by first | exact Or.inl rfl | exact Or.inr rfl) (pe_op op_mod (pe_op op_add (pv 6) (pv 5)) (pv 1)))
  (pss_cons (ps_set (i := 8) sc_l_sides.nd rfl (by first | exact Or.inl rfl | exact Or.inr rfl) (pe_op op_mod (pe_op op_add (pe_op op_fdiv (pv 6) pe_int) (pe_op op_fdiv (pv 5) (pv 1))) (pv 2)))
  (pss_cons (ps_set (i := 9) sc_l_sides.nd rfl (by first | exact Or.inl rfl | exact Or.inr rfl) (pe_ix ix_list (pv 3) (pv 7) (fun _ _ => rfl)))
  (pss_cons (ps_set (i := 10) sc_l_sides.nd rfl (by first | exact Or.inl rfl | exact Or.inr rfl) (pe_ix ix_list (pv 4) (pv 8) (fun _ _ => rfl)))
  (pss_cons (ps_cut (ps_if (PW.pt (pw_and (pt_cmpR op_notIn_seq (pv 8) (pv 9) (by with_unfolding_all rfl)) (pw_and1 (pt_cmpR op_ne (pe_op op_mod (pv 6) pe_int) pe_int (nomark _))))) (pss_one (ps_expr (pe_bm PySem.F.plainAttrs_list PySem.F.slot_list_insert PySem.F.type_list_insert mt_insert (pv 9) (pa_cons (pe_op op_mod (pe_op op_add (pe_op op_fdiv (pv 6) pe_int) (pv 5)) (pe_op op_add (pe_callB call_len_seq rfl B.len PySem.boot_len (pa_cons (pv 9) pa_nil)) pe_int)) (pa_cons (pv 8) pa_nil))))) pss_nil))
  (pss_one (ps_if (PW.pt (pw_and (pt_cmpR op_notIn_seq (pv 7) (pv 10) (by with_unfolding_all rfl)) (pw_and1 (pt_cmpR op_ne (pe_op op_mod (pv 6) pe_int) pe_int (nomark _))))) (pss_one (ps_expr (pe_bm PySem.F.plainAttrs_list PySem.F.slot_list_insert PySem.F.type_list_insert mt_insert (pv 10) (pa_cons (pe_op op_mod (pe_op op_add (pe_op op_fdiv (pv 6) pe_int) (pe_op op_fdiv (pv 5) pe_int)) (pe_op op_add (pe_callB call_len_seq rfl B.len PySem.boot_len (pa_cons (pv 10) pa_nil)) pe_int)) (pa_cons (pv 7) pa_nil))))) pss_nil)))))))))
  (pss_one (ps_ret (pe_tup (pa_cons (pv 3) (pa_cons (pv 4) pa_nil))))))))), ?_⟩
  have hl : (iv cs).length = cs.length := List.length_map _
  refine ⟨_, rfl, n, rfl, by omega, by omega, fun p hp => comp_nils (n := n.toNat) hp (by omega) fun as H1 la nda pa fa s1 r1 => ?_⟩
  refine ⟨_, rfl, m, rfl, by omega, by omega, fun b hb => comp_nils (n := m.toNat) hb (by omega) fun as' H2 lb ndb pb fb s2 r2 => ?_⟩
  have s02 : Same H H2 := s1.trans s2
  have r1' := r1.same s2
  have hpb : p ≠ b := ne_of_none r1.top hb
  have hbH : H b = none := s1.free hb
  have hx1 : ∀ x ∈ as', H1 x = none ∧ H x = none := fun x hx => ⟨fb x hx, s1.free (fb x hx)⟩
  have rowas : ∀ x ∈ as, ∃ o, H1 x = some o := fun x hx => by
    obtain ⟨i, hi⟩ := List.mem_iff_getElem?.mp hx
    have hlt : i < n.toNat := by rw [← la]; exact (List.getElem?_eq_some_iff.mp hi).1
    exact ⟨_, r1.row i x [] hi (by rw [List.getElem?_replicate, if_pos hlt])⟩
  have apart : (p :: b :: (as ++ as')).Nodup := by
    refine List.nodup_cons.mpr ⟨fun z => ?_, List.nodup_cons.mpr ⟨fun z => ?_, List.nodup_append.mpr ⟨nda, ndb, fun x hx y hy e => ?_⟩⟩⟩
    · rcases List.mem_cons.mp z with z | z
      · exact hpb z
      · rcases List.mem_append.mp z with z | z
        · exact pa z
        · exact absurd (hx1 p z).1 (by rw [r1.top]; intro e; cases e)
    · rcases List.mem_append.mp z with z | z
      · obtain ⟨o, ho⟩ := rowas b z
        rw [hb] at ho
        cases ho
      · exact pb z
    · subst e
      obtain ⟨o, ho⟩ := rowas x hx
      rw [(hx1 x hy).1] at ho
      cases ho
  have fresh : ∀ x ∈ p :: b :: (as ++ as'), H x = none := fun x hx => by
    rcases List.mem_cons.mp hx with e | hx
    · exact e ▸ hp
    · rcases List.mem_cons.mp hx with e | hx
      · exact e ▸ hbH
      · rcases List.mem_append.mp hx with hx | hx
        · exact fa x hx
        · exact (hx1 x hx).2
  have okp : WOk (List.replicate n.toNat []) m.toNat := fun l hl => by rw [List.eq_of_mem_replicate hl]; exact Wl.nil _
  have okb : WOk (List.replicate m.toNat []) n.toNat := fun l hl => by rw [List.eq_of_mem_replicate hl]; exact Wl.nil _
  -- the end: the pair of both
  have fin : ∀ (H' : Hp) (ps bs : List (List Int)) (t : Addr), Same H H' → RowsN H' p as ps → RowsN H' b as' bs → ps.length = n.toNat → bs.length = m.toNat → WOk ps m.toNat → WOk bs n.toNat → H' t = none → Q (.ref t) (upd H' t (.tup [.ref p, .ref b])) :=
    fun H' ps bs t s r r' l l' o o' ht => by
      have st := same_new ht (.tup [.ref p, .ref b])
      exact q t p b as as' ps bs _ (s.trans st) upd_same (r.same st) (r'.same st) l l' o o' apart fresh
  refine ⟨_, rfl, rfl, _, rfl, ?_⟩
  have nz : n ≠ 0 → m ≠ 0 → _ := fun hn hm => (⟨by omega, by omega⟩ : 0 < n ∧ 0 < m)
  have ret : ∀ {H' : Hp}, Same H H' → H' = H2 → _ := fun {H'} (_ : Same H H') (e : H' = H2) => e
  refine ite2 (fun _ => ?_) (fun c1 => ?_)
  · refine iteT ⟨_, rfl, _, rfl, (by show 2 ≤ sizeLine; decide), fun t ht => ?_⟩
    exact fin H2 _ _ t s02 r1' r2 (by rw [List.length_replicate]) (by rw [List.length_replicate]) okp okb ht
  refine ⟨_, rfl, rfl, _, rfl, ?_⟩
  refine ite2 (fun _ => ?_) (fun c2 => ?_)
  · refine ⟨_, rfl, _, rfl, (by show 2 ≤ sizeLine; decide), fun t ht => ?_⟩
    exact fin H2 _ _ t s02 r1' r2 (by rw [List.length_replicate]) (by rw [List.length_replicate]) okp okb ht
  have hn : 0 < n := by
    have : n ≠ 0 := fun e => c1 (by rw [e]; rfl)
    omega
  have hm : 0 < m := by
    have : m ≠ 0 := fun e => c2 (by rw [e]; rfl)
    omega
  refine ⟨_, rfl, c, _, rfl, .inl (s02.seq hS), _, rfl, by omega, by rw [hl]; omega, for_range (lo := 0) (n := ((iv cs).length : Int).toNat) (fun i σ H' => ∃ (ps bs : List (List Int)) (v5 v6 v7 v8 v9 v10 : Option V), σ = [some (.ref c), some (.int n), some (.int m), some (.ref p), some (.ref b), v5, v6, v7, v8, v9, v10] ∧
    Same H H' ∧ RowsN H' p as ps ∧ RowsN H' b as' bs ∧ ps.length = n.toNat ∧ bs.length = m.toNat ∧ WOk ps m.toNat ∧ WOk bs n.toNat ∧ (∀ l ∈ ps, l.length ≤ i) ∧ ∀ l ∈ bs, l.length ≤ i)
    ⟨_, _, none, none, none, none, none, none, rfl, s02, r1', r2, by rw [List.length_replicate], by rw [List.length_replicate], okp, okb, fun l hl => by rw [List.eq_of_mem_replicate hl]; exact Nat.le_refl _, fun l hl => by rw [List.eq_of_mem_replicate hl]; exact Nat.le_refl _⟩ ?_ ?_⟩
  · rintro i σ H' hi ⟨ps, bs, v5, v6, v7, v8, v9, v10, rfl, s', r, r', lp, lb, op, ob, hp', hb'⟩
    have hic : i < cs.length := by omega
    have i0 : (0 : Int) ≤ 0 + (i : Int) := by omega
    have i1 : 0 + (i : Int) < (cs.length : Int) := by omega
    generalize hk : 0 + (i : Int) = k at i0 i1 ⊢
    generalize hcell : cs.getD k.toNat 0 = cell
    have hat := atI_ints i0 i1
    rw [hcell] at hat
    refine ⟨_, rfl, _, rfl, c, _, _, _, rfl, rfl, s'.seq hS, hat, ?_⟩
    refine ⟨_, rfl, _, rfl, _, _, rfl, rfl, _, rfl, _, _, rfl, rfl, hn, ?_⟩
    refine ⟨_, rfl, _, _, rfl, rfl, ⟨by decide, by decide⟩, _, rfl, _, rfl, _, _, rfl, rfl, ⟨hn, by omega⟩, _, _, rfl, rfl, _, rfl, _, _, rfl, rfl, hm, ?_⟩
    have p0 := Int.emod_nonneg (cell + k) (show n ≠ 0 by omega)
    have p1 := Int.emod_lt_of_pos (cell + k) hn
    have b0 := Int.emod_nonneg (cell / 7 + k / n) (show m ≠ 0 by omega)
    have b1 := Int.emod_lt_of_pos (cell / 7 + k / n) hm
    obtain ⟨x, ex, ax, hx⟩ := r.at p0 (show ((cell + k) % n) < (ps.length : Int) by omega)
    obtain ⟨y, ey, ay, hy⟩ := r'.at b0 (show ((cell / 7 + k / n) % m) < (bs.length : Int) by omega)
    refine ⟨_, rfl, _, rfl, p, _, _, _, rfl, rfl, SqL.of r.top, ax, ?_⟩
    refine ⟨_, rfl, _, rfl, b, _, _, _, rfl, rfl, SqL.of r'.top, ay, ?_⟩
    have xin : x ∈ as := List.mem_of_getElem? ex
    have yin : y ∈ as' := List.mem_of_getElem? ey
    obtain ⟨np, nb⟩ := List.nodup_cons.mp apart
    obtain ⟨nb, nn⟩ := List.nodup_cons.mp nb
    obtain ⟨nd1, nd2, dis⟩ := List.nodup_append.mp nn
    have hlx : (rw ps ((cell + k) % n)).length ≤ i := by
      unfold L2.rw
      rw [List.getD_eq_getElem?_getD]
      cases e : ps[((cell + k) % n).toNat]? with
      | none => exact Nat.zero_le _
      | some l => exact hp' l (List.mem_of_getElem? e)
    have hly : (rw bs ((cell / 7 + k / n) % m)).length ≤ i := by
      unfold L2.rw
      rw [List.getD_eq_getElem?_getD]
      cases e : bs[((cell / 7 + k / n) % m).toNat]? with
      | none => exact Nat.zero_le _
      | some l => exact hb' l (List.mem_of_getElem? e)
    refine ⟨fun σ' H'' => σ' = [some (.ref c), some (.int n), some (.int m), some (.ref p), some (.ref b), some (.int k), some (.int cell), some (.int ((cell + k) % n)), some (.int ((cell / 7 + k / n) % m)), some (.ref x), some (.ref y)] ∧ Same H H'' ∧ ∃ ps', RowsN H'' p as ps' ∧ RowsN H'' b as' bs ∧ ps'.length = n.toNat ∧
      WOk ps' m.toNat ∧ ∀ l ∈ ps', l.length ≤ i + 1, ?_, ?_⟩
    · refine ⟨_, rfl, _, rfl, x, _, rfl, .inl (SqL.of hx), rfl, flat_ints _, _, rfl, ?_⟩
      rw [inV_ints]
      refine ite2 (fun c3 => ?_) (fun _ => ?_)
      · have hnot : ¬ ((cell / 7 + k / n) % m) ∈ rw ps ((cell + k) % n) := by simpa using c3
        refine ⟨_, rfl, _, _, rfl, rfl, (by show (0 : Int) < 9; decide), rfl, _, rfl, ?_⟩
        refine ite2 (fun _ => ?_) (fun _ => ?_)
        · have lx : (iv (rw ps ((cell + k) % n))).length = (rw ps ((cell + k) % n)).length := List.length_map _
          refine ⟨_, rfl, .inl ⟨rfl, _, SqL.of hx⟩, _, rfl, _, _, rfl, rfl, ⟨by decide, by decide⟩, _, rfl, _, _, rfl, rfl, _, rfl, x, _, rfl, .inl (SqL.of hx), _, _, rfl, rfl, _, _, rfl, rfl, (by rw [lx]; omega), _, rfl, x, _, _, _, rfl, rfl, hx, ?_, ?_, (by rw [lx]; exact small1000 (by omega)), ?_⟩
          · exact Int.emod_nonneg _ (by rw [lx]; omega)
          · have := Int.emod_lt_of_pos (cell / 11 + k) (show (0 : Int) < (((iv (rw ps ((cell + k) % n))).length : Nat) : Int) + 1 by omega)
            rw [lx] at this ⊢
            omega
          · rw [insV_ints]
            have wl := (op.rw ((cell + k) % n)).ins (min ((cell / 11 + k) % ((((iv (rw ps ((cell + k) % n))).length : Nat) : Int) + 1)).toNat (iv (rw ps ((cell + k) % n))).length) hnot b0 (by omega) (by omega)
            refine ⟨rfl, fun z o e => ?_, ps.set ((cell + k) % n).toNat _, r.set nd1 (fun z => np (List.mem_cons_of_mem _ (List.mem_append_left _ z))) ex _, r'.other (fun z => dis x xin x z rfl) (fun z => nb (z ▸ List.mem_append_left _ xin)) _, by rw [List.length_set]; exact lp, op.set _ wl, fun l hl' => ?_⟩
            · rw [upd_ne (ne_of_none e (fresh x (List.mem_cons_of_mem _ (List.mem_cons_of_mem _ (List.mem_append_left _ xin)))))]
              exact s' z o e
            · rcases List.mem_or_eq_of_mem_set hl' with z | z
              · exact Nat.le_succ_of_le (hp' l z)
              · rw [z, (ins_perm _ _ _).length_eq, List.length_cons]
                omega
        · exact ⟨rfl, s', ps, r, r', lp, op, fun l hl => Nat.le_succ_of_le (hp' l hl)⟩
      · exact ⟨rfl, s', ps, r, r', lp, op, fun l hl => Nat.le_succ_of_le (hp' l hl)⟩
    rintro σ3 H3 ⟨rfl, s3, ps', q1, q2, lp', op', hp3⟩
    have hy3 : H3 y = some (.lst (iv (rw bs ((cell / 7 + k / n) % m)))) := by
      have hlt : ((cell / 7 + k / n) % m).toNat < bs.length := by omega
      have e : rw bs ((cell / 7 + k / n) % m) = bs[((cell / 7 + k / n) % m).toNat] := by unfold L2.rw; rw [List.getD_eq_getElem?_getD, List.getElem?_eq_getElem hlt]; rfl
      rw [e]
      exact q2.row _ _ _ ey (List.getElem?_eq_getElem hlt)
    refine ⟨_, rfl, _, rfl, y, _, rfl, .inl (SqL.of hy3), rfl, flat_ints _, _, rfl, ?_⟩
    rw [inV_ints]
    refine ite2 (fun c3 => ?_) (fun _ => ?_)
    · have hnot : ¬ ((cell + k) % n) ∈ rw bs ((cell / 7 + k / n) % m) := by simpa using c3
      refine ⟨_, rfl, _, _, rfl, rfl, (by show (0 : Int) < 9; decide), rfl, _, rfl, ?_⟩
      refine ite2 (fun _ => ?_) (fun _ => ?_)
      · have ly : (iv (rw bs ((cell / 7 + k / n) % m))).length = (rw bs ((cell / 7 + k / n) % m)).length := List.length_map _
        refine ⟨_, rfl, .inl ⟨rfl, _, SqL.of hy3⟩, _, rfl, _, _, rfl, rfl, ⟨by decide, by decide⟩, _, rfl, _, _, rfl, rfl, ⟨by decide, by decide⟩, _, _, rfl, rfl, _, rfl, y, _, rfl, .inl (SqL.of hy3), _, _, rfl, rfl, _, _, rfl, rfl, (by rw [ly]; omega), _, rfl, y, _, _, _, rfl, rfl, hy3, ?_, ?_, (by rw [ly]; exact small1000 (by omega)), ?_⟩
        · exact Int.emod_nonneg _ (by rw [ly]; omega)
        · have := Int.emod_lt_of_pos (cell / 13 + k / 2) (show (0 : Int) < (((iv (rw bs ((cell / 7 + k / n) % m))).length : Nat) : Int) + 1 by omega)
          rw [ly] at this ⊢
          omega
        · rw [insV_ints]
          have wl := (ob.rw ((cell / 7 + k / n) % m)).ins (min ((cell / 13 + k / 2) % ((((iv (rw bs ((cell / 7 + k / n) % m))).length : Nat) : Int) + 1)).toNat (iv (rw bs ((cell / 7 + k / n) % m))).length) hnot p0 (by omega) (by omega)
          refine ⟨ps', bs.set ((cell / 7 + k / n) % m).toNat _, _, _, _, _, _, _, rfl, fun z o e => ?_, q1.other (fun z => dis y z y yin rfl) (fun z => np (z ▸ List.mem_cons_of_mem _ (List.mem_append_right _ yin))) _, q2.set nd2 (fun z => nb (List.mem_append_right _ z)) ey _, lp', by rw [List.length_set]; exact lb, op', ob.set _ wl, hp3, fun l hl' => ?_⟩
          · rw [upd_ne (ne_of_none e (fresh y (List.mem_cons_of_mem _ (List.mem_cons_of_mem _ (List.mem_append_right _ yin)))))]
            exact s3 z o e
          · rcases List.mem_or_eq_of_mem_set hl' with z | z
            · exact Nat.le_succ_of_le (hb' l z)
            · rw [z, (ins_perm _ _ _).length_eq, List.length_cons]
              omega
      · exact ⟨ps', bs, _, _, _, _, _, _, rfl, s3, q1, q2, lp', lb, op', ob, hp3, fun l hl => Nat.le_succ_of_le (hb' l hl)⟩
    · exact ⟨ps', bs, _, _, _, _, _, _, rfl, s3, q1, q2, lp', lb, op', ob, hp3, fun l hl => Nat.le_succ_of_le (hb' l hl)⟩
  · rintro σ H' ⟨ps, bs, v5, v6, v7, v8, v9, v10, rfl, s', r, r', lp, lb, op, ob, _, _⟩
    refine ⟨_, rfl, _, rfl, (by show 2 ≤ sizeLine; decide), fun t ht => ?_⟩
    exact fin H' ps bs t s' r r' lp lb op ob ht
def sp_l_kept (K : PySem.W.Frag) : Sp := fun vs H Q _ => ∃ (a b : Addr) (ls : List (List Int)), vs = [.ref a, .ref b] ∧ RowsAt H a ls ∧ RowsAt H b ls ∧ ls.length ≤ 1000 ∧ (∀ l ∈ ls, l.length ≤ 1000) ∧ Q (.bl true) H
theorem ok_l_kept (F : Fun K "_law_kept" "_law_kept" s_l_kept f fd) (B : Bl mg) (C_l_whole : Cal P w K mg base 1 "_law_whole" ["_law_found"] (sp_l_whole K)) : FnOk P w K mg base CX0 2 f fd ["_law_found", "_law_due"] (sp_l_kept K) := by
  refine F.ok sc_l_kept (fun vs H Q E h => ?_) (fun cdv A outer s H vs Q E hr h => ?_)
  · obtain ⟨a, b, ls, rfl, _⟩ := h
    rfl
  obtain ⟨a, b, ls, rfl, ra, rb, hl, hll, q⟩ := h
  refine ⟨_, (pss_cons (ps_if (PW.pt (pw_or (pt_not (pt_val (pe_callB call_isi rfl B.isinstance PyProof.Rows.boot_isinstance (pa_cons (pv 0) (pa_cons (pe_bltn (v := .ty "list") rfl B.list PyProof.Rows.boot_list rfl) pa_nil))))) (pw_or1 (pt_cmpR op_ne (pe_callB call_len_seq rfl B.len PySem.boot_len (pa_cons (pv 0) pa_nil)) (pe_callB call_len_seq rfl B.len PySem.boot_len (pa_cons (pv 1) pa_nil)) (nomark _))))) (pss_one (ps_ret pe_bl)) pss_nil)
  (pss_cons (ps_for PassesOwn.never rfl (pi_range1 rfl B.range (pa_cons (pe_callB call_len_seq rfl B.len PySem.boot_len (pa_cons (pv 1) pa_nil)) pa_nil)) (pg_name (i := 2) sc_l_kept.nd rfl (by first | exact Or.inl rfl | exact Or.inr rfl))
  (pss_cons (ps_if (PW.pt (pw_or (pt_not (pt_val (pe_callB call_isi rfl B.isinstance PyProof.Rows.boot_isinstance (pa_cons (pe_ix ix_list (pv 0) (pv 2) (fun _ _ => rfl)) (pa_cons (pe_bltn (v := .ty "list") rfl B.list PyProof.Rows.boot_list rfl) pa_nil))))) (pw_or1 (pt_cmpR op_ne (pe_callB call_len_seq rfl B.len PySem.boot_len (pa_cons (pe_ix ix_list (pv 0) (pv 2) (fun _ _ => rfl)) pa_nil)) (pe_callB call_len_seq rfl B.len PySem.boot_len (pa_cons (pe_ix ix_list (pv 1) (pv 2) (fun _ _ => rfl)) pa_nil)) (nomark _))))) (pss_one (ps_ret pe_bl)) pss_nil)
  (pss_one (ps_for PassesOwn.never rfl (pi_range1 rfl B.range (pa_cons (pe_callB call_len_seq rfl B.len PySem.boot_len (pa_cons (pe_ix ix_list (pv 1) (pv 2) (fun _ _ => rfl)) pa_nil)) pa_nil)) (pg_name (i := 3) sc_l_kept.nd rfl (by first | exact Or.inl rfl | exact Or.inr rfl))
  (pss_one (ps_if (PW.pt (pw_or (pt_not (pt_val (pe_cal C_l_whole (hr.mono (by decide)) rfl (pa_cons (pe_ix ix_list (pe_ix ix_list (pv 0) (pv 2) (fun _ _ => rfl)) (pv 3) (fun _ _ => rfl)) pa_nil)))) (pw_or1 (pt_cmpR op_ne (pe_ix ix_list (pe_ix ix_list (pv 0) (pv 2) (fun _ _ => rfl)) (pv 3) (fun _ _ => rfl)) (pe_ix ix_list (pe_ix ix_list (pv 1) (pv 2) (fun _ _ => rfl)) (pv 3) (fun _ _ => rfl)) (nomark _))))) (pss_one (ps_ret pe_bl)) pss_nil))))))
  (pss_one (ps_ret pe_bl)))), ?_⟩
  obtain ⟨xs, ta, la⟩ := ra.top
  obtain ⟨ys, tb, lb⟩ := rb.top
  refine ⟨_, rfl, _, _, _, _, rfl, TyOf.lst ta, kit_ll, _, rfl, iteF ?_⟩
  refine ⟨_, rfl, a, _, rfl, .inl (SqL.of ta), _, rfl, b, _, rfl, .inl (SqL.of tb), rfl, _, rfl, iteNS (by rw [la, lb]) ?_⟩
  refine ⟨_, rfl, b, _, rfl, .inl (SqL.of tb), _, rfl, by omega, by omega, for_range (lo := 0) (n := (ys.length : Int).toNat) (fun i σ H' => ∃ v2 v3 : Option V, σ = [some (.ref a), some (.ref b), v2, v3] ∧ H' = H) ⟨none, none, rfl, rfl⟩ ?_ ?_⟩
  · rintro i σ H' hi ⟨v2, v3, rfl, rfl⟩
    have i0 : (0 : Int) ≤ 0 + (i : Int) := by omega
    have i1 : 0 + (i : Int) < (ls.length : Int) := by omega
    obtain ⟨xs', x, tx, ax, hx⟩ := ra.at i0 i1
    obtain ⟨ys', y, ty, ay, hy⟩ := rb.at i0 i1
    have hrl : (rw ls (0 + (i : Int))).length ≤ 1000 := by
      unfold L2.rw
      rw [List.getD_eq_getElem?_getD]
      cases e : ls[(0 + (i : Int)).toNat]? with
      | none => exact Nat.zero_le _
      | some l => exact hll l (List.mem_of_getElem? e)
    have ll : (iv (rw ls (0 + (i : Int)))).length = (rw ls (0 + (i : Int))).length := List.length_map _
    refine ⟨_, rfl, _, rfl, a, _, _, _, rfl, rfl, SqL.of tx, ax, _, _, _, _, rfl, TyOf.lst hx, kit_ll, _, rfl, iteF ?_⟩
    refine ⟨_, rfl, _, rfl, a, _, _, _, rfl, rfl, SqL.of tx, ax, x, _, rfl, .inl (SqL.of hx), _, rfl, _, rfl, b, _, _, _, rfl, rfl, SqL.of ty, ay, y, _, rfl, .inl (SqL.of hy), rfl, _, rfl, iteNS rfl ?_⟩
    refine ⟨_, rfl, _, rfl, b, _, _, _, rfl, rfl, SqL.of ty, ay, y, _, rfl, .inl (SqL.of hy), _, rfl, by omega, by rw [ll]; omega, for_range (lo := 0) (n := ((iv (rw ls (0 + (i : Int)))).length : Int).toNat) (fun j σ H'' => ∃ v3 : Option V, σ = [some (.ref a), some (.ref b), some (.int (0 + (i : Int))), v3] ∧ H'' = H') ⟨_, rfl, rfl⟩ ?_ ?_⟩
    · rintro j σ H'' hj ⟨v3, rfl, rfl⟩
      have j0 : (0 : Int) ≤ 0 + (j : Int) := by omega
      have j1 : 0 + (j : Int) < ((rw ls (0 + (i : Int))).length : Int) := by omega
      refine ⟨_, rfl, _, rfl, a, _, _, _, rfl, rfl, SqL.of tx, ax, _, rfl, x, _, _, _, rfl, rfl, SqL.of hx, atI_ints j0 j1, _, rfl, _, rfl, iteF ?_⟩
      refine ⟨_, rfl, _, rfl, a, _, _, _, rfl, rfl, SqL.of tx, ax, _, rfl, x, _, _, _, rfl, rfl, SqL.of hx, atI_ints j0 j1, _, rfl, _, rfl, b, _, _, _, rfl, rfl, SqL.of ty, ay, _, rfl, y, _, _, _, rfl, rfl, SqL.of hy, atI_ints j0 j1, rfl, _, rfl, iteNS rfl ?_⟩
      exact ⟨_, rfl, rfl⟩
    · rintro σ H'' ⟨v3, rfl, rfl⟩
      exact ⟨_, _, rfl, rfl⟩
  · rintro σ H' ⟨v2, v3, rfl, rfl⟩
    exact q
def sp_l_copies (K : PySem.W.Frag) : Sp := fun vs H Q _ => ∃ (a : Addr) (ls : List (List Int)), vs = [.ref a] ∧ RowsAt H a ls ∧ ls.length ≤ 1000 ∧ ∀ (r : Addr) (H' : Hp), Same H H' → H r = none → RowsAt H' r ls → Q (.ref r) H'
theorem ok_l_copies (F : Fun K "_law_copies" "_law_copies" s_l_copies f fd) (B : Bl mg) : FnOk P w K mg base CX0 1 f fd ["_law_lists"] (sp_l_copies K) := by
  refine F.ok sc_l_copies (fun vs H Q E h => ?_) (fun cdv A outer s H vs Q E hr h => ?_)
  · obtain ⟨a, ls, rfl, _⟩ := h
    rfl
  obtain ⟨a, ls, rfl, ⟨as, hR⟩, hl, q⟩ := h
  refine ⟨_, (pss_one (ps_ret (pe_comp [] [] rfl (pi_list (pv 0)) (fun C fp s₀ H₀ => pf_nil) (fun C fp s₀ H₀ => pe_cutE (pe_callTy (call_list_ofK (K := K) rfl) rfl B.list PyProof.Rows.boot_list (pa_cons (pv 0) pa_nil)))))), ?_⟩
  refine ⟨_, rfl, a, rfl, ⟨_, SqL.of hR.top⟩, fun D hD => comp_list (K := K) (a := a) (xs := as.map V.ref) (fun i ys H' => ∃ bs : List Addr, ys = bs.map V.ref ∧ D ∉ bs ∧ Same H H' ∧ ∀ (j : Nat) b l, bs[j]? = some b → ls[j]? = some l → H' b = some (.lst (iv l)))
    upd_same ⟨[], rfl, by simp, same_new hD _, fun j b l e => by cases e⟩ (by rw [List.length_map, hR.len]; exact hl) (fun i ys H' ⟨_, _, _, s', _⟩ => SqL.of (s' _ _ hR.top)) ?_ ?_⟩
  · rintro i ys x H2 hi hle ⟨bs, rfl, hDb, s', hx⟩ hd
    rw [List.length_map] at hle
    rw [List.getElem?_map] at hi
    cases et : as[i]? with
    | none => rw [et] at hi; cases hi
    | some t =>
      rw [et] at hi
      cases hi
      have hlt : i < ls.length := by rw [← hR.len]; exact (List.getElem?_eq_some_iff.mp et).1
      have ht := s' _ _ (hR.row i t _ et (List.getElem?_eq_getElem hlt))
      refine ⟨_, rfl, t, _, rfl, .inl (SqL.of ht), fun b hb => ?_⟩
      have hbD : D ≠ b := ne_of_none hd hb
      have hbn : ∀ (j : Nat) c l, bs[j]? = some c → ls[j]? = some l → c ≠ b := fun j c l e1 e2 z => by
        have := hx j c l e1 e2
        rw [z, hb] at this
        cases this
      refine ⟨by rw [upd_ne hbD]; exact hd, bs ++ [b], by rw [List.map_append]; rfl, fun z => ?_, (s'.upd (s'.free hb) _).upd hD _, fun j c l e1 e2 => ?_⟩
      · rcases List.mem_append.mp z with z | z
        · exact hDb z
        · exact hbD (List.mem_singleton.mp z)
      · by_cases hj : j < bs.length
        · rw [List.getElem?_append_left hj] at e1
          have hcD : c ≠ D := fun z => hDb (z ▸ List.mem_of_getElem? e1)
          rw [upd_ne hcD, upd_ne (hbn j c l e1 e2)]
          exact hx j c l e1 e2
        · have hl' := (List.getElem?_eq_some_iff.mp e1).1
          rw [List.length_append, List.length_singleton] at hl'
          have : j = bs.length := by omega
          subst this
          rw [List.getElem?_append_right (Nat.le_refl _), Nat.sub_self] at e1
          cases e1
          rw [hle, List.getElem?_eq_getElem hlt] at e2
          cases e2
          rw [upd_ne (Ne.symm hbD)]
          exact upd_same
  · rintro ys H2 hle ⟨bs, rfl, hDb, s', hx⟩ hd
    rw [List.length_map, List.length_map, hR.len] at hle
    exact q D H2 s' hD ⟨bs, hd, hle, hx⟩
def sp_l_strange (K : PySem.W.Frag) : Sp := fun vs H Q _ => ∃ (p : Addr) (as : List Addr) (ls : List (List Int)) (spot x : Int), vs = [.ref p, .int spot, .int x] ∧ RowsN H p as ls ∧ 0 < ls.length ∧ ls.length ≤ 100 ∧ (∀ l ∈ ls, l.length ≤ 90) ∧
  ∀ (i : Nat) (b : Addr) (k : Nat), as[i]? = some b → i < ls.length → Q .non (upd H b (.lst (iv ((ls.getD i []).take k ++ x :: (ls.getD i []).drop k))))
theorem ok_l_strange (F : Fun K "_law_strange" "_law_strange" s_l_strange f fd) (B : Bl mg) : FnOk P w K mg base CX0 1 f fd ["_law_lists", "_law_spot", "_law_number"] (sp_l_strange K) := by
  refine F.ok sc_l_strange (fun vs H Q E h => ?_) (fun cdv A outer s H vs Q E hr h => ?_)
  · obtain ⟨p, as, ls, spot, x, rfl, _⟩ := h
    rfl
  obtain ⟨p, as, ls, spot, x, rfl, hR, l0, l1, l2, q⟩ := h
  refine ⟨_, (pss_cons (ps_set (i := 3) sc_l_strange.nd rfl (by first | exact Or.inl rfl | exact Or.inr rfl) (pe_ix ix_list (pv 0) (pe_op op_mod (pv 1) (pe_callB call_len_seq rfl B.len PySem.boot_len (pa_cons (pv 0) pa_nil))) (fun _ _ => rfl)))
  (pss_one (ps_expr (pe_bm PySem.F.plainAttrs_list PySem.F.slot_list_insert PySem.F.type_list_insert mt_insert (pv 3) (pa_cons (pe_op op_mod (pv 1) (pe_op op_add (pe_callB call_len_seq rfl B.len PySem.boot_len (pa_cons (pv 3) pa_nil)) pe_int)) (pa_cons (pv 2) pa_nil)))))), ?_⟩
  have la : (as.map V.ref).length = ls.length := by rw [List.length_map, hR.len]
  have i0 := Int.emod_nonneg spot (show (((as.map V.ref).length : Nat) : Int) ≠ 0 by omega)
  have i1 := Int.emod_lt_of_pos spot (show (0 : Int) < (((as.map V.ref).length : Nat) : Int) by omega)
  obtain ⟨b, eb, ab, hb⟩ := hR.at i0 (by rw [← la]; exact i1)
  have hlt : (spot % (((as.map V.ref).length : Nat) : Int)).toNat < ls.length := by omega
  refine ⟨_, rfl, _, rfl, _, rfl, p, _, rfl, .inl (SqL.of hR.top), _, _, rfl, rfl, (by omega), p, _, _, _, rfl, rfl, SqL.of hR.top, ab, ?_⟩
  generalize hi : (spot % (((as.map V.ref).length : Nat) : Int)).toNat = i at *
  have hrw : rw ls (spot % (((as.map V.ref).length : Nat) : Int)) = ls.getD i [] := by unfold L2.rw; rw [hi]
  rw [hrw] at hb
  have hlen : (ls.getD i []).length ≤ 90 := by
    rw [List.getD_eq_getElem?_getD, List.getElem?_eq_getElem hlt]
    exact l2 _ (List.getElem_mem hlt)
  have lx : (iv (ls.getD i [])).length = (ls.getD i []).length := List.length_map _
  refine ⟨_, rfl, .inl ⟨rfl, _, SqL.of hb⟩, _, rfl, _, rfl, b, _, rfl, .inl (SqL.of hb), _, _, rfl, rfl, _, _, rfl, rfl, (by omega), _, rfl, b, _, _, _, rfl, rfl, hb, ?_, ?_, (by rw [lx]; exact small1000 (by omega)), ?_⟩
  · exact Int.emod_nonneg _ (by omega)
  · have := Int.emod_lt_of_pos spot (show (0 : Int) < (((iv (ls.getD i [])).length : Nat) : Int) + 1 by omega)
    omega
  · rw [insV_ints]
    exact q i b _ eb hlt
def sp_l_doubled (K : PySem.W.Frag) : Sp := fun vs H Q _ => ∃ (p : Addr) (as : List Addr) (ls : List (List Int)) (spot : Int), vs = [.ref p, .int spot] ∧ RowsN H p as ls ∧ 0 < ls.length ∧ ls.length ≤ 100 ∧ (∀ l ∈ ls, l.length ≤ 90) ∧
  ∀ (i : Nat) (b : Addr) (k : Nat) (l : List Int) (y : Int) (H' : Hp), as[i]? = some b → i < ls.length → l = (if ls.getD i [] = [] then [0] else ls.getD i []) → y ∈ l → But H H' b (.lst (iv (l.take k ++ y :: l.drop k))) → Q .non H'
theorem ok_l_doubled (F : Fun K "_law_doubled" "_law_doubled" s_l_doubled f fd) (B : Bl mg) : FnOk P w K mg base CX0 1 f fd ["_law_lists", "_law_spot"] (sp_l_doubled K) := by
  refine F.ok sc_l_doubled (fun vs H Q E h => ?_) (fun cdv A outer s H vs Q E hr h => ?_)
  · obtain ⟨p, as, ls, spot, rfl, _⟩ := h
    rfl
  obtain ⟨p, as, ls, spot, rfl, hR, l0, l1, l2, q⟩ := h
  refine ⟨_, (pss_cons (ps_set (i := 2) sc_l_doubled.nd rfl (by first | exact Or.inl rfl | exact Or.inr rfl) (pe_ix ix_list (pv 0) (pe_op op_mod (pv 1) (pe_callB call_len_seq rfl B.len PySem.boot_len (pa_cons (pv 0) pa_nil))) (fun _ _ => rfl)))
  (pss_cons (ps_cut (ps_if (pt_cmpR (op_eqL hr.units0) (pv 2) (pe_lst pa_nil) (nomark _)) (pss_one (ps_expr (pe_bm PySem.F.plainAttrs_list PySem.F.slot_list_append PySem.F.type_list_append mt_append (pv 2) (pa_cons pe_int pa_nil)))) pss_nil))
  (pss_one (ps_expr (pe_bm PySem.F.plainAttrs_list PySem.F.slot_list_insert PySem.F.type_list_insert mt_insert (pv 2) (pa_cons (pe_op op_mod (pe_op op_fdiv (pv 1) pe_int) (pe_op op_add (pe_callB call_len_seq rfl B.len PySem.boot_len (pa_cons (pv 2) pa_nil)) pe_int)) (pa_cons (pe_ix ix_list (pv 2) (pe_op op_mod (pv 1) (pe_callB call_len_seq rfl B.len PySem.boot_len (pa_cons (pv 2) pa_nil))) (fun _ _ => rfl)) pa_nil))))))), ?_⟩
  have la : (as.map V.ref).length = ls.length := by rw [List.length_map, hR.len]
  have i0 := Int.emod_nonneg spot (show (((as.map V.ref).length : Nat) : Int) ≠ 0 by omega)
  have i1 := Int.emod_lt_of_pos spot (show (0 : Int) < (((as.map V.ref).length : Nat) : Int) by omega)
  obtain ⟨b, eb, ab, hb⟩ := hR.at i0 (by rw [← la]; exact i1)
  have hlt : (spot % (((as.map V.ref).length : Nat) : Int)).toNat < ls.length := by omega
  refine ⟨_, rfl, _, rfl, _, rfl, p, _, rfl, .inl (SqL.of hR.top), _, _, rfl, rfl, (by omega), p, _, _, _, rfl, rfl, SqL.of hR.top, ab, ?_⟩
  generalize hi : (spot % (((as.map V.ref).length : Nat) : Int)).toNat = i at *
  have hrw : rw ls (spot % (((as.map V.ref).length : Nat) : Int)) = ls.getD i [] := by unfold L2.rw; rw [hi]
  rw [hrw] at hb
  have hlen : (ls.getD i []).length ≤ 90 := by
    rw [List.getD_eq_getElem?_getD, List.getElem?_eq_getElem hlt]
    exact l2 _ (List.getElem_mem hlt)
  have q' := fun k l y H' => q i b k l y H' eb hlt
  generalize hrow : ls.getD i [] = row at *
  refine ⟨fun σ' H' => σ' = [some (.ref p), some (.int spot), some (.ref b)] ∧ But H H' b (.lst (iv (if row = [] then [0] else row))), ?_, ?_⟩
  · refine ⟨_, rfl, (by show 0 ≤ sizeLine; decide), fun e he => ?_⟩
    have hbe : b ≠ e := ne_of_none hb he
    have s1 := same_new he (.lst [])
    refine ⟨b, e, _, _, rfl, rfl, SqL.of (s1 _ _ hb), SqL.of upd_same, ?_⟩
    by_cases hn : row = []
    · subst hn
      refine .inr ⟨rfl, rfl, rfl, _, rfl, iteT ?_⟩
      refine ⟨_, rfl, .inl ⟨rfl, _, SqL.of (s1 _ _ hb)⟩, b, _, _, rfl, rfl, s1 _ _ hb, (by show 0 < sizeLine; decide), rfl, fun x u n ex => ?_, ?_⟩
      · rw [upd_ne n]; exact s1 _ _ ex
      · rw [upd_same, if_pos rfl]; rfl
    · refine .inl ⟨fun z => hn (List.length_eq_zero_iff.mp (by rw [List.length_map] at z; exact z)), _, rfl, iteF ?_⟩
      exact ⟨rfl, fun x u n ex => s1 _ _ ex, by rw [if_neg hn]; exact s1 _ _ hb⟩
  · rintro σ' H' ⟨rfl, hB⟩
    generalize hl : (if row = [] then [0] else row) = l at *
    have ll : l.length ≤ 90 ∧ 0 < l.length := by
      rw [← hl]
      split
      · exact ⟨by decide, by decide⟩
      · rename_i hne
        exact ⟨hlen, List.length_pos_iff.mpr hne⟩
    have lx : (iv l).length = l.length := List.length_map _
    have hb' := hB.at_
    have j0 := Int.emod_nonneg spot (show (((iv l).length : Nat) : Int) ≠ 0 by omega)
    have j1 := Int.emod_lt_of_pos spot (show (0 : Int) < (((iv l).length : Nat) : Int) by omega)
    refine ⟨_, rfl, .inl ⟨rfl, _, SqL.of hb'⟩, _, rfl, _, _, rfl, rfl, ⟨by decide, by decide⟩, _, rfl, b, _, rfl, .inl (SqL.of hb'), _, _, rfl, rfl, _, _, rfl, rfl, (by omega), _, rfl, _, rfl, _, rfl, b, _, rfl, .inl (SqL.of hb'), _, _, rfl, rfl, (by omega), b, _, _, _, rfl, rfl, SqL.of hb', atI_ints j0 (by rw [← lx]; exact j1), b, _, _, _, rfl, rfl, hb', ?_, ?_, (by rw [lx]; exact small1000 (by omega)), ?_⟩
    · exact Int.emod_nonneg _ (by omega)
    · have := Int.emod_lt_of_pos (spot / 3) (show (0 : Int) < (((iv l).length : Nat) : Int) + 1 by omega)
      omega
    · rw [insV_ints]
      refine q' _ l _ _ rfl ?_ ⟨fun x u n ex => by rw [upd_ne n]; exact hB.oth _ _ n ex, upd_same⟩
      have hk : (spot % (((iv l).length : Nat) : Int)).toNat < l.length := by omega
      rw [List.getD_eq_getElem?_getD, List.getElem?_eq_getElem hk]
      exact List.getElem_mem hk
def sp_l_answer (K : PySem.W.Frag) : Sp := fun vs H Q _ => ∃ (wy : Int) (p b : Addr) (ps bs : List (List Int)), vs = [.int wy, .ref p, .ref b] ∧ RowsAt H p ps ∧ RowsAt H b bs ∧ ps.length ≤ 9 ∧ bs.length ≤ 9 ∧ (∀ l ∈ ps, l.length ≤ 100) ∧ (∀ l ∈ bs, l.length ≤ 100) ∧
  ∀ H', Same H H' → Q (.str (due ps bs)) H'
theorem ok_l_answer {Cp Cn Ct : Addr} (F : Fun K "_law_answer" "_law_answer" s_l_answer f fd) (B : Bl mg) (X : Errs K mg Cp Cn Ct) (C_paired : CalX P w K mg base 20 "paired" ["pilots", "boats"] (sp_ref2 Cn Ct K)) (C_askings : CalX P w K mg base 20 "askings" ["pilots", "boats"] (sp_ref2 Cn Ct K))
    (C_loose : CalX P w K mg base 20 "loose" ["pilots", "boats", "pairs"] (sp_ref3 Cn Ct K)) (C_stays : CalX P w K mg base 20 "stays" ["pilots", "boats", "pairs"] (sp_ref3 Cn Ct K)) : FnOk P w K mg base CX0 22 f fd ["_law_way", "_law_pilots", "_law_boats"] (sp_l_answer K) := by
  refine F.ok sc_l_answer (fun vs H Q E h => ?_) (fun cdv A outer s H vs Q E hr h => ?_)
  · obtain ⟨wy, p, b, ps, bs, rfl, _⟩ := h
    rfl
  obtain ⟨wy, p, b, ps, bs, rfl, rp, rb, l1, l2, s1, s2, q⟩ := h
  have m_PairError := X.mp
  have m_NoSuch := X.mn
  have m_Twice := X.mt
  have m_ValueError := X.mv
  let Eb : XK := fun cls _ H' => Same H H' ∧ ((cls = .ref Cn ∧ noSuch ps bs) ∨ (cls = .ref Ct ∧ ¬ noSuch ps bs ∧ twice ps bs))
  have ref : ∀ H1, Same H H1 → refuse Cn Ct ps bs H1 Eb := fun H1 s0 H' s => ⟨fun n => ⟨s0.trans s, .inl ⟨rfl, n⟩⟩, fun n t => ⟨s0.trans s, .inr ⟨rfl, n, t⟩⟩⟩
  have done : ¬ noSuch ps bs → ¬ twice ps bs → due ps bs = "done" := fun n t => by unfold due; rw [if_neg n, if_neg t]
  refine ⟨_, (pss_cons (ps_set (i := 3) sc_l_answer.nd rfl (by first | exact Or.inl rfl | exact Or.inr rfl) pe_str)
  (pss_cons (ps_tryAs (i := 4) (Eb := Eb) sc_l_answer.nd rfl rfl rfl rfl rfl m_PairError (fun pn => (pss_one (ps_if (pt_cmpR op_eq (pv 0) pe_int (nomark _)) (pss_one (ps_expr (pe_calX C_paired (hr.mono (by decide)) rfl tryB_pass (pa_cons (pv 1) (pa_cons (pv 2) pa_nil))))) (pss_one (ps_if (pt_cmpR op_eq (pv 0) pe_int (nomark _)) (pss_one (ps_expr (pe_calX C_askings (hr.mono (by decide)) rfl tryB_pass (pa_cons (pv 1) (pa_cons (pv 2) pa_nil))))) (pss_one (ps_if (pt_cmpR op_eq (pv 0) pe_int (nomark _)) (pss_one (ps_expr (pe_calX C_loose (hr.mono (by decide)) rfl tryB_pass (pa_cons (pv 1) (pa_cons (pv 2) (pa_cons (pe_lst pa_nil) pa_nil)))))) (pss_one (ps_expr (pe_calX C_stays (hr.mono (by decide)) rfl tryB_pass (pa_cons (pv 1) (pa_cons (pv 2) (pa_cons (pe_lst pa_nil) pa_nil))))))))))))) (fun ea => (pss_cons (ps_set (i := 3) sc_l_answer.nd rfl (by first | exact Or.inl rfl | exact Or.inr rfl) pe_str)
  (pss_cons (ps_cut (ps_if (pt_val (pe_callB (call_isxK (K := K) rfl) rfl B.isinstance PyProof.Rows.boot_isinstance (pa_cons (pv 4) (pa_cons (pe_glob (v := .ref _) rfl m_NoSuch rfl) pa_nil)))) (pss_one (ps_set (i := 3) sc_l_answer.nd rfl (by first | exact Or.inl rfl | exact Or.inr rfl) pe_str)) pss_nil))
  (pss_cons (ps_cut (ps_if (pt_val (pe_callB (call_isxK (K := K) rfl) rfl B.isinstance PyProof.Rows.boot_isinstance (pa_cons (pv 4) (pa_cons (pe_glob (v := .ref _) rfl m_Twice rfl) pa_nil)))) (pss_one (ps_set (i := 3) sc_l_answer.nd rfl (by first | exact Or.inl rfl | exact Or.inr rfl) (pe_ix (ix_listK (K := K) rfl) (pe_lst (pa_cons pe_str (pa_cons pe_str pa_nil))) (pe_callTy call_int1 rfl B.int PyProof.Rows.boot_int (pa_cons (pe_cmpR op_eq (pv 3) pe_str (nomark _)) pa_nil)) (fun _ _ => rfl)))) pss_nil))
  (pss_one (ps_if (pt_not (pt_val (pe_callB (call_isxK (K := K) rfl) rfl B.isinstance PyProof.Rows.boot_isinstance (pa_cons (pv 4) (pa_cons (pe_bltn (v := .ty "ValueError") rfl m_ValueError boot_ValueError rfl) pa_nil))))) (pss_one (ps_set (i := 3) sc_l_answer.nd rfl (by first | exact Or.inl rfl | exact Or.inr rfl) pe_str)) pss_nil)))))))
  (pss_one (ps_ret (pv 3))))), ?_⟩
  refine ⟨?_, ?_⟩
  · have fin : ∀ H1, Same H H1 → ¬ noSuch ps bs → ¬ twice ps bs → ∀ (v : V) H', Same H1 H' → Q (.str "done") H' := fun H1 s0 n t v H' s => by
      have := q H' (s0.trans s)
      rw [done n t] at this
      exact this
    refine ⟨_, rfl, rfl, _, rfl, ite2 (fun _ => ?_) (fun _ => ?_)⟩
    · exact ⟨_, rfl, _, rfl, p, b, ps, bs, rfl, rp, rb, l1, l2, s1, s2, ref H (Same.refl H), fun n t v H' s => ⟨_, rfl, fin H (Same.refl H) n t v H' s⟩⟩
    refine ⟨_, rfl, rfl, _, rfl, ite2 (fun _ => ?_) (fun _ => ?_)⟩
    · exact ⟨_, rfl, _, rfl, p, b, ps, bs, rfl, rp, rb, l1, l2, s1, s2, ref H (Same.refl H), fun n t v H' s => ⟨_, rfl, fin H (Same.refl H) n t v H' s⟩⟩
    refine ⟨_, rfl, rfl, _, rfl, ite2 (fun _ => ?_) (fun _ => ?_)⟩
    · refine ⟨_, rfl, _, rfl, (by show 0 ≤ sizeLine; decide), fun a ha => ?_⟩
      have s0 := same_new ha (.lst [])
      exact ⟨p, b, a, ps, bs, rfl, rp.same s0, rb.same s0, ⟨[], PrsN.nil upd_same⟩, l1, l2, s1, s2, ref _ s0, fun n t v H' s => ⟨_, rfl, fin _ s0 n t v H' s⟩⟩
    · refine ⟨_, rfl, _, rfl, (by show 0 ≤ sizeLine; decide), fun a ha => ?_⟩
      have s0 := same_new ha (.lst [])
      exact ⟨p, b, a, ps, bs, rfl, rp.same s0, rb.same s0, ⟨[], PrsN.nil upd_same⟩, l1, l2, s1, s2, ref _ s0, fun n t v H' s => ⟨_, rfl, fin _ s0 n t v H' s⟩⟩
  · rintro cls H' ⟨s0, ⟨rfl, n⟩ | ⟨rfl, n, t⟩⟩
    · refine ⟨Cn, rfl, X.xn, fun ea hea => ?_⟩
      have q' : ∀ H'', Same H H'' → Q (.str "no such") H'' := fun H'' s => by
        have := q H'' s
        unfold due at this
        rw [if_pos n] at this
        exact this
      have st := s0.trans (same_new hea (excO Cn ea))
      have he : upd H' ea (excO Cn ea) ea = some (excO Cn ea) := upd_same
      generalize upd H' ea (excO Cn ea) = H1 at st he ⊢
      refine ⟨fun σ' H2 => σ' = [none, none, none, some (.str "no such"), some (.ref ea)] ∧ H2 = H1, ⟨_, rfl, ea, Cn, _, _, _, rfl, fun z hz => hz, he, X.fn, X.nn, _, rfl, iteT ⟨rfl, rfl⟩⟩, ?_⟩
      rintro σ' H2 ⟨rfl, rfl⟩
      refine ⟨fun σ' H3 => σ' = [none, none, none, some (.str "no such"), some (.ref ea)] ∧ H3 = H2, ⟨_, rfl, ea, Cn, _, _, _, rfl, fun z hz => hz, he, X.fn, X.nt, _, rfl, iteF ⟨rfl, rfl⟩⟩, ?_⟩
      rintro σ' H3 ⟨rfl, rfl⟩
      refine ⟨_, rfl, ea, Cn, _, _, _, rfl, fun z hz => hz, he, X.fn, X.nv, _, rfl, iteF ?_⟩
      exact ⟨_, rfl, q' _ st⟩
    · refine ⟨Ct, rfl, X.xt, fun ea hea => ?_⟩
      have q' : ∀ H'', Same H H'' → Q (.str "twice") H'' := fun H'' s => by
        have := q H'' s
        unfold due at this
        rw [if_neg n, if_pos t] at this
        exact this
      have st := s0.trans (same_new hea (excO Ct ea))
      have he : upd H' ea (excO Ct ea) ea = some (excO Ct ea) := upd_same
      generalize upd H' ea (excO Ct ea) = H1 at st he ⊢
      refine ⟨fun σ' H2 => σ' = [none, none, none, some (.str "other"), some (.ref ea)] ∧ H2 = H1, ⟨_, rfl, ea, Ct, _, _, _, rfl, fun z hz => hz, he, X.ft, X.tn, _, rfl, iteF ⟨rfl, rfl⟩⟩, ?_⟩
      rintro σ' H2 ⟨rfl, rfl⟩
      refine ⟨fun σ' H3 => σ' = [none, none, none, some (.str "twice"), some (.ref ea)] ∧ Same H2 H3, ⟨_, rfl, ea, Ct, _, _, _, rfl, fun z hz => hz, he, X.ft, X.tt, _, rfl, iteT ?_⟩, ?_⟩
      · refine ⟨(by show 2 ≤ sizeLine; decide), fun d hd => ?_⟩
        refine ⟨_, rfl, rfl, .inr ⟨_, rfl, d, _, _, _, rfl, rfl, SqL.of upd_same, rfl, rfl, same_new hd _⟩⟩
      rintro σ' H3 ⟨rfl, s3⟩
      refine ⟨_, rfl, ea, Ct, _, _, _, rfl, fun z hz => hz, s3 _ _ he, X.ft, X.tv, _, rfl, iteF ?_⟩
      exact ⟨_, rfl, q' _ (st.trans s3)⟩
theorem ok_law (F : Fun K "law" "law" s_law f fd) (B : Bl mg) (C_l_at : Cal P w K mg base 1 "_law_at" ["_law_script", "_law_k"] (sp_l_at K))
    (C_l_sides : Cal P w K mg base 1 "_law_sides" ["_law_cells", "_law_first", "_law_second"] (sp_l_sides K)) (C_l_copies : Cal P w K mg base 1 "_law_copies" ["_law_lists"] (sp_l_copies K))
    (C_l_kept : Cal P w K mg base 2 "_law_kept" ["_law_found", "_law_due"] (sp_l_kept K)) (C_l_strange : Cal P w K mg base 1 "_law_strange" ["_law_lists", "_law_spot", "_law_number"] (sp_l_strange K))
    (C_l_doubled : Cal P w K mg base 1 "_law_doubled" ["_law_lists", "_law_spot"] (sp_l_doubled K)) (C_l_answer : Cal P w K mg base 22 "_law_answer" ["_law_way", "_law_pilots", "_law_boats"] (sp_l_answer K)) : FnOk P w K mg base CX0 30 f fd ["_law_script"] (spLaw K) := by
  refine F.ok sc_law (fun vs H Q E h => ?_) (fun cdv A outer s H vs Q E hr h => ?_)
  · obtain ⟨a, ns, rfl, _⟩ := h
    rfl
  obtain ⟨a, ns, rfl, hS, h63, q⟩ := h
  refine ⟨_, (pss_cons (ps_set (i := 0) sc_law.nd rfl (by first | exact Or.inl rfl | exact Or.inr rfl) (pe_slice sl_list (pv 0) po_none (po_some pe_int)))
  (pss_cons (ps_set (i := 1) sc_law.nd rfl (by first | exact Or.inl rfl | exact Or.inr rfl) (pe_op op_add pe_int (pe_op op_mod (pe_cal C_l_at (hr.mono (by decide)) rfl (pa_cons (pv 0) (pa_cons pe_int pa_nil))) pe_int)))
  (pss_cons (ps_set (i := 2) sc_law.nd rfl (by first | exact Or.inl rfl | exact Or.inr rfl) (pe_op op_add pe_int (pe_op op_mod (pe_cal C_l_at (hr.mono (by decide)) rfl (pa_cons (pv 0) (pa_cons pe_int pa_nil))) pe_int)))
  (pss_cons (ps_asg (pe_cal C_l_sides (hr.mono (by decide)) rfl (pa_cons (pe_slice sl_list (pv 0) (po_some pe_int) po_none) (pa_cons (pv 1) (pa_cons (pv 2) pa_nil)))) (pg_tup (n := 2) rfl (pgs_cons (pg_name (i := 3) sc_law.nd rfl (by first | exact Or.inl rfl | exact Or.inr rfl)) (pgs_cons (pg_name (i := 4) sc_law.nd rfl (by first | exact Or.inl rfl | exact Or.inr rfl)) pgs_nil))))
  (pss_cons (ps_set (i := 5) sc_law.nd rfl (by first | exact Or.inl rfl | exact Or.inr rfl) (pe_op op_mod (pe_cal C_l_at (hr.mono (by decide)) rfl (pa_cons (pv 0) (pa_cons pe_int pa_nil))) pe_int))
  (pss_cons (ps_set (i := 6) sc_law.nd rfl (by first | exact Or.inl rfl | exact Or.inr rfl) (pe_op op_mod (pe_op op_fdiv (pe_cal C_l_at (hr.mono (by decide)) rfl (pa_cons (pv 0) (pa_cons pe_int pa_nil))) pe_int) pe_int))
  (pss_cons (ps_set (i := 7) sc_law.nd rfl (by first | exact Or.inl rfl | exact Or.inr rfl) pe_str)
  (pss_cons (ps_cut (ps_if (PW.pt (pw_or (pt_cmpR op_eq (pv 5) pe_int (nomark _)) (pw_or1 (pt_cmpR op_eq (pv 5) pe_int (nomark _))))) (pss_cons (ps_expr (pe_cal C_l_doubled (hr.mono (by decide)) rfl (pa_cons (pv 3) (pa_cons (pv 6) pa_nil))))
  (pss_one (ps_set (i := 7) sc_law.nd rfl (by first | exact Or.inl rfl | exact Or.inr rfl) pe_str))) pss_nil))
  (pss_cons (ps_cut (ps_if (PW.pt (pw_or (pt_cmpR op_eq (pv 5) pe_int (nomark _)) (pw_or1 (pt_cmpR op_eq (pv 5) pe_int (nomark _))))) (pss_cons (ps_expr (pe_cal C_l_doubled (hr.mono (by decide)) rfl (pa_cons (pv 4) (pa_cons (pv 6) pa_nil))))
  (pss_one (ps_set (i := 7) sc_law.nd rfl (by first | exact Or.inl rfl | exact Or.inr rfl) pe_str))) pss_nil))
  (pss_cons (ps_cut (ps_if (PW.pt (pw_or (pt_cmpR op_eq (pv 5) pe_int (nomark _)) (pw_or1 (pt_cmpR op_eq (pv 5) pe_int (nomark _))))) (pss_cons (ps_expr (pe_cal C_l_strange (hr.mono (by decide)) rfl (pa_cons (pv 3) (pa_cons (pv 6) (pa_cons (pe_ix ix_list (pe_lst (pa_cons pe_neg (pa_cons (pv 2) (pa_cons (pe_op op_add (pv 2) pe_int) (pa_cons pe_neg (pa_cons (pe_op op_sub pe_neg (pv 2)) pa_nil)))))) (pe_op op_mod (pv 6) pe_int) (fun _ _ => rfl)) pa_nil)))))
  (pss_one (ps_set (i := 7) sc_law.nd rfl (by first | exact Or.inl rfl | exact Or.inr rfl) pe_str))) pss_nil))
  (pss_cons (ps_cut (ps_if (PW.pt (pw_or (pt_cmpR op_eq (pv 5) pe_int (nomark _)) (pw_or1 (pt_cmpR op_eq (pv 5) pe_int (nomark _))))) (pss_cons (ps_expr (pe_cal C_l_strange (hr.mono (by decide)) rfl (pa_cons (pv 4) (pa_cons (pv 6) (pa_cons (pe_ix ix_list (pe_lst (pa_cons pe_neg (pa_cons (pv 1) (pa_cons (pe_op op_add (pv 1) pe_int) (pa_cons pe_neg (pa_cons (pe_op op_sub pe_neg (pv 1)) pa_nil)))))) (pe_op op_mod (pv 6) pe_int) (fun _ _ => rfl)) pa_nil)))))
  (pss_one (ps_set (i := 7) sc_law.nd rfl (by first | exact Or.inl rfl | exact Or.inr rfl) pe_str))) pss_nil))
  (pss_cons (ps_set (i := 8) sc_law.nd rfl (by first | exact Or.inl rfl | exact Or.inr rfl) (pe_cal C_l_copies (hr.mono (by decide)) rfl (pa_cons (pv 3) pa_nil)))
  (pss_cons (ps_set (i := 9) sc_law.nd rfl (by first | exact Or.inl rfl | exact Or.inr rfl) (pe_cal C_l_copies (hr.mono (by decide)) rfl (pa_cons (pv 4) pa_nil)))
  (pss_cons (ps_for PassesOwn.never rfl (pi_range1 rfl B.range (pa_cons pe_int pa_nil)) (pg_name (i := 10) sc_law.nd rfl (by first | exact Or.inl rfl | exact Or.inr rfl))
  (pss_one (ps_if (pt_cmpR op_ne (pe_cal C_l_answer (hr.mono (by decide)) rfl (pa_cons (pv 10) (pa_cons (pv 8) (pa_cons (pv 9) pa_nil)))) (pv 7) (nomark _)) (pss_one (ps_ret pe_bl)) pss_nil)))
  (pss_one (ps_ret (pe_and (pe_cal C_l_kept (hr.mono (by decide)) rfl (pa_cons (pv 8) (pa_cons (pv 3) pa_nil))) (pe_one (pe_cal C_l_kept (hr.mono (by decide)) rfl (pa_cons (pv 9) (pa_cons (pv 4) pa_nil))))))))))))))))))))), ?_⟩
  refine ⟨_, rfl, _, rfl, a, _, rfl, hS, fun p0 hp0 => ?_⟩
  rw [cut_all ns h63]
  have s1 := same_new hp0 (.lst (iv ns))
  have g0 : upd H p0 (.lst (iv ns)) p0 = some (.lst (iv ns)) := upd_same
  generalize upd H p0 (.lst (iv ns)) = H0 at s1 g0 ⊢
  refine ⟨_, rfl, p0, ns, 0, rfl, SqL.of g0, by decide, _, _, rfl, rfl, (by show (0 : Int) < 9; decide), _, _, rfl, rfl, ?_⟩
  refine ⟨_, rfl, p0, ns, 1, rfl, SqL.of g0, by decide, _, _, rfl, rfl, (by show (0 : Int) < 9; decide), _, _, rfl, rfl, ?_⟩
  have n0 := Int.emod_nonneg (ns.getD (0 : Int).toNat 0) (show (9 : Int) ≠ 0 by decide)
  have n1 := Int.emod_lt_of_pos (ns.getD (0 : Int).toNat 0) (show (0 : Int) < 9 by decide)
  have m0 := Int.emod_nonneg (ns.getD (1 : Int).toNat 0) (show (9 : Int) ≠ 0 by decide)
  have m1 := Int.emod_lt_of_pos (ns.getD (1 : Int).toNat 0) (show (0 : Int) < 9 by decide)
  dsimp (config := { proj := false, zeta := false, failIfUnchanged := false }) only
  generalize hn : 1 + ns.getD (0 : Int).toNat 0 % 9 = n at *
  generalize hm : 1 + ns.getD (1 : Int).toNat 0 % 9 = m at *
  replace n0 : 1 ≤ n := by omega
  replace n1 : n ≤ 9 := by omega
  replace m0 : 1 ≤ m := by omega
  replace m1 : m ≤ 9 := by omega
  refine ⟨_, rfl, _, rfl, p0, _, rfl, SqL.of g0, fun c hc => ?_⟩
  rw [cut_fromI ns (show (0 : Int) ≤ 3 by decide)]
  have s3 := same_new hc (.lst (iv (ns.drop (3 : Int).toNat)))
  have hcl : (ns.drop (3 : Int).toNat).length ≤ 63 := by rw [List.length_drop]; omega
  refine ⟨_, rfl, _, rfl, c, _, n, m, rfl, SqL.of upd_same, hcl, by omega, by omega, by omega, by omega, fun t p b as as' ps bs H2 s4 ht rp rb lp lb op ob apart fresh => ?_⟩
  refine ⟨t, _, rfl, SqT.of ht, rfl, _, _, rfl, _, _, rfl, rfl, ?_⟩
  have g4 := s4 _ _ (s3 _ _ g0)
  refine ⟨_, rfl, p0, ns, 2, rfl, SqL.of g4, by decide, _, _, rfl, rfl, (by show (0 : Int) < 7; decide), ?_⟩
  refine ⟨_, rfl, p0, ns, 2, rfl, SqL.of g4, by decide, _, _, rfl, rfl, ⟨by decide, by decide⟩, _, _, rfl, rfl, (by show (0 : Int) < 100; decide), ?_⟩
  have sp0 := Int.emod_nonneg (ns.getD (2 : Int).toNat 0 / 7) (show (100 : Int) ≠ 0 by decide)
  dsimp (config := { proj := false, zeta := false, failIfUnchanged := false }) only
  generalize hspot : ns.getD (2 : Int).toNat 0 / 7 % 100 = spot at *
  generalize hspoil : ns.getD (2 : Int).toNat 0 % 7 = spoil at *
  obtain ⟨np, nb⟩ := List.nodup_cons.mp apart
  obtain ⟨nb, nn⟩ := List.nodup_cons.mp nb
  obtain ⟨nd1, nd2, dis⟩ := List.nodup_append.mp nn
  have pas : p ∉ as := fun z => np (List.mem_cons_of_mem _ (List.mem_append_left _ z))
  have bas : b ∉ as' := fun z => nb (List.mem_append_right _ z)
  have op0 : Side False False ps m.toNat := ⟨fun z => z.elim, fun _ z => z.elim, fun _ _ => op.s0 (by omega)⟩
  have ob0 : Side False False bs n.toNat := ⟨fun z => z.elim, fun _ z => z.elim, fun _ _ => ob.s0 (by omega)⟩
  -- a row of the pilots' is written, of the boats'
  have putP : ∀ {H1 H' : Hp} {ps bs : List (List Int)} {i : Nat} {x : Addr} {l : List Int}, RowsN H1 p as ps → RowsN H1 b as' bs → as[i]? = some x → But H1 H' x (.lst (iv l)) → RowsN H' p as (ps.set i l) ∧ RowsN H' b as' bs := fun r r' e w =>
    ⟨r.put nd1 pas e w, r'.away (fun z => dis _ (List.mem_of_getElem? e) _ z rfl) (fun z => nb (z ▸ List.mem_append_left _ (List.mem_of_getElem? e))) w⟩
  have putB : ∀ {H1 H' : Hp} {ps bs : List (List Int)} {i : Nat} {x : Addr} {l : List Int}, RowsN H1 p as ps → RowsN H1 b as' bs → as'[i]? = some x → But H1 H' x (.lst (iv l)) → RowsN H' p as ps ∧ RowsN H' b as' (bs.set i l) := fun r r' e w =>
    ⟨r.away (fun z => dis _ z _ (List.mem_of_getElem? e) rfl) (fun z => np (z ▸ List.mem_cons_of_mem _ (List.mem_append_right _ (List.mem_of_getElem? e)))) w, r'.put nd2 bas e w⟩
  let σ0 : Str → St := fun d => [some (.ref p0), some (.int n), some (.int m), some (.ref p), some (.ref b), some (.int spoil), some (.int spot), some (.str d), none, none, none]
  -- doubled pilots
  refine ⟨fun σ' H' => ∃ ps bs, σ' = σ0 (if spoil = 1 ∨ spoil = 5 then "twice" else "done") ∧ RowsN H' p as ps ∧ RowsN H' b as' bs ∧ ps.length = n.toNat ∧ bs.length = m.toNat ∧ Side (spoil = 1 ∨ spoil = 5) False ps m.toNat ∧ Side False False bs n.toNat, ?_, ?_⟩
  · refine ⟨_, rfl, rfl, _, rfl, ite2 (fun z => iteT ?_) (fun z1 => ⟨_, rfl, rfl, _, rfl, ite2 (fun z => ?_) (fun z => ?_)⟩)⟩
    rotate_left 2
    · have hc : ¬ (spoil = 1 ∨ spoil = 5) := fun h => h.elim (fun e => z1 (by rw [e]; rfl)) (fun e => z (by rw [e]; rfl))
      exact ⟨ps, bs, by rw [if_neg hc]; rfl, rp, rb, lp, lb, ⟨fun z => z.elim, fun _ z => (hc z).elim, fun _ _ => op.s0 (by omega)⟩, ob0⟩
    all_goals
      have hc : spoil = 1 ∨ spoil = 5 := by first | exact .inl (V.int.inj (of_decide_eq_true z)) | exact .inr (V.int.inj (of_decide_eq_true z))
      refine ⟨_, rfl, _, rfl, p, as, ps, spot, rfl, rp, by omega, by omega, fun l hl => Nat.le_trans (op0.sh l hl) (by decide), fun i x k l y H' e1 e2 e3 e4 w => ?_⟩
      obtain ⟨r1, r2⟩ := putP rp rb e1 w
      exact ⟨_, bs, by rw [if_pos hc]; rfl, r1, r2, by rw [List.length_set]; exact lp, lb, ⟨fun z => z.elim, fun _ _ => (op.s0 (by omega)).dbl (by omega) e2 e3 e4, fun _ z => (z hc).elim⟩, ob0⟩
  clear rp rb lp lb op ob op0 ob0 g4 ht
  rintro σ5 H5 ⟨ps, bs, rfl, rp, rb, lp, lb, op, ob⟩
  -- doubled boats
  refine ⟨fun σ' H' => ∃ ps bs, σ' = σ0 (if spoil = 2 ∨ spoil = 6 then "twice" else if spoil = 1 ∨ spoil = 5 then "twice" else "done") ∧ RowsN H' p as ps ∧ RowsN H' b as' bs ∧ ps.length = n.toNat ∧ bs.length = m.toNat ∧ Side (spoil = 1 ∨ spoil = 5) False ps m.toNat ∧ Side (spoil = 2 ∨ spoil = 6) False bs n.toNat, ?_, ?_⟩
  · refine ⟨_, rfl, rfl, _, rfl, ite2 (fun z => iteT ?_) (fun z1 => ⟨_, rfl, rfl, _, rfl, ite2 (fun z => ?_) (fun z => ?_)⟩)⟩
    rotate_left 2
    · have hc : ¬ (spoil = 2 ∨ spoil = 6) := fun h => h.elim (fun e => z1 (by rw [e]; rfl)) (fun e => z (by rw [e]; rfl))
      exact ⟨ps, bs, by rw [if_neg hc], rp, rb, lp, lb, op, ⟨fun z => z.elim, fun _ z => (hc z).elim, fun _ _ => ob.2.2 (fun z => z) (fun z => z)⟩⟩
    all_goals
      have hc : spoil = 2 ∨ spoil = 6 := by first | exact .inl (V.int.inj (of_decide_eq_true z)) | exact .inr (V.int.inj (of_decide_eq_true z))
      refine ⟨_, rfl, _, rfl, b, as', bs, spot, rfl, rb, by omega, by omega, fun l hl => Nat.le_trans (ob.sh l hl) (by decide), fun i x k l y H' e1 e2 e3 e4 w => ?_⟩
      obtain ⟨r1, r2⟩ := putB rp rb e1 w
      exact ⟨ps, _, by rw [if_pos hc]; rfl, r1, r2, lp, by rw [List.length_set]; exact lb, op, ⟨fun z => z.elim, fun _ _ => (ob.2.2 (fun z => z) (fun z => z)).dbl (by omega) e2 e3 e4, fun _ z => (z hc).elim⟩⟩
  clear rp rb lp lb op ob
  rintro σ6 H6 ⟨ps, bs, rfl, rp, rb, lp, lb, op, ob⟩
  have em : m = ((m.toNat : Nat) : Int) := by omega
  have en : n = ((n.toNat : Nat) : Int) := by omega
  have k0 := Int.emod_nonneg spot (show (5 : Int) ≠ 0 by decide)
  have k1 := Int.emod_lt_of_pos spot (show (0 : Int) < 5 by decide)
  -- strange pilots
  refine ⟨fun σ' H' => ∃ ps bs, σ' = σ0 (if spoil = 3 ∨ spoil = 6 then "no such" else if spoil = 2 ∨ spoil = 6 then "twice" else if spoil = 1 ∨ spoil = 5 then "twice" else "done") ∧ RowsN H' p as ps ∧ RowsN H' b as' bs ∧ ps.length = n.toNat ∧ bs.length = m.toNat ∧ Side (spoil = 1 ∨ spoil = 5) (spoil = 3 ∨ spoil = 6) ps m.toNat ∧ Side (spoil = 2 ∨ spoil = 6) False bs n.toNat, ?_, ?_⟩
  · refine ⟨_, rfl, rfl, _, rfl, ite2 (fun z => iteT ?_) (fun z1 => ⟨_, rfl, rfl, _, rfl, ite2 (fun z => ?_) (fun z => ?_)⟩)⟩
    rotate_left 2
    · have hc : ¬ (spoil = 3 ∨ spoil = 6) := fun h => h.elim (fun e => z1 (by rw [e]; rfl)) (fun e => z (by rw [e]; rfl))
      exact ⟨ps, bs, by rw [if_neg hc], rp, rb, lp, lb, ⟨fun z => (hc z).elim, fun _ c => op.2.1 (fun z => z) c, fun _ c => op.2.2 (fun z => z) c⟩, ob⟩
    all_goals
      have hc : spoil = 3 ∨ spoil = 6 := by first | exact .inl (V.int.inj (of_decide_eq_true z)) | exact .inr (V.int.inj (of_decide_eq_true z))
      have hat := atI_ints (ns := [(-1 : Int), m, m + 3, -2, -1 - m]) k0 (by show spot % 5 < ((5 : Nat) : Int); omega)
      have hkl : (spot % 5).toNat < [(-1 : Int), m, m + 3, -2, -1 - m].length := by show (spot % 5).toNat < 5; omega
      have hodd : [(-1 : Int), m, m + 3, -2, -1 - m].getD (spot % 5).toNat 0 < 0 ∨ (m.toNat : Int) ≤ [(-1 : Int), m, m + 3, -2, -1 - m].getD (spot % 5).toNat 0 := by
        have hx : [(-1 : Int), m, m + 3, -2, -1 - m].getD (spot % 5).toNat 0 ∈ [(-1 : Int), m, m + 3, -2, -1 - m] := by
          rw [List.getD_eq_getElem?_getD, List.getElem?_eq_getElem hkl]
          exact List.getElem_mem hkl
        rw [em] at hx ⊢
        exact odd_one (k := 0) _ hx
      generalize [(-1 : Int), m, m + 3, -2, -1 - m].getD (spot % 5).toNat 0 = odd at hat hodd
      refine ⟨_, rfl, _, rfl, _, rfl, _, rfl, _, _, rfl, rfl, _, rfl, _, _, rfl, rfl, (by show 5 ≤ sizeLine; decide), fun d hd => ?_⟩
      have sd := same_new hd (.lst [V.int (-1), V.int m, V.int (m + 3), V.int (-2), V.int (-1 - m)])
      refine ⟨_, rfl, _, _, rfl, rfl, (by show (0 : Int) < 5; decide), d, _, _, _, rfl, rfl, SqL.of upd_same, hat, ?_⟩
      refine ⟨p, as, ps, spot, odd, rfl, rp.same sd, by omega, by omega, fun l hl => Nat.le_trans (op.sh l hl) (by decide), fun i x k e1 e2 => ?_⟩
      obtain ⟨r1, r2⟩ := putP (rp.same sd) (rb.same sd) e1 (But.upd _ x _)
      have sh30 : ∀ l ∈ ps, l.length ≤ 30 := fun l hl => by
        by_cases cc : spoil = 1 ∨ spoil = 5
        · exact (op.2.1 (fun z => z) cc).sh l hl
        · exact Nat.le_trans ((op.2.2 (fun z => z) cc).sh l hl) (by decide)
      exact ⟨_, bs, by rw [if_pos hc]; rfl, r1, r2, by rw [List.length_set]; exact lp, lb, ⟨fun _ => spoil2 sh30 e2 hodd, fun z => (z hc).elim, fun z => (z hc).elim⟩, ob⟩
  clear rp rb lp lb op ob
  rintro σ7 H7 ⟨ps, bs, rfl, rp, rb, lp, lb, op, ob⟩
  -- strange boats
  refine ⟨fun σ' H' => ∃ ps bs, σ' = σ0 (if spoil = 4 ∨ spoil = 5 then "no such" else if spoil = 3 ∨ spoil = 6 then "no such" else if spoil = 2 ∨ spoil = 6 then "twice" else if spoil = 1 ∨ spoil = 5 then "twice" else "done") ∧ RowsN H' p as ps ∧ RowsN H' b as' bs ∧ ps.length = n.toNat ∧ bs.length = m.toNat ∧ Side (spoil = 1 ∨ spoil = 5) (spoil = 3 ∨ spoil = 6) ps m.toNat ∧ Side (spoil = 2 ∨ spoil = 6) (spoil = 4 ∨ spoil = 5) bs n.toNat, ?_, ?_⟩
  · refine ⟨_, rfl, rfl, _, rfl, ite2 (fun z => iteT ?_) (fun z1 => ⟨_, rfl, rfl, _, rfl, ite2 (fun z => ?_) (fun z => ?_)⟩)⟩
    rotate_left 2
    · have hc : ¬ (spoil = 4 ∨ spoil = 5) := fun h => h.elim (fun e => z1 (by rw [e]; rfl)) (fun e => z (by rw [e]; rfl))
      exact ⟨ps, bs, by rw [if_neg hc], rp, rb, lp, lb, op, ⟨fun z => (hc z).elim, fun _ c => ob.2.1 (fun z => z) c, fun _ c => ob.2.2 (fun z => z) c⟩⟩
    all_goals
      have hc : spoil = 4 ∨ spoil = 5 := by first | exact .inl (V.int.inj (of_decide_eq_true z)) | exact .inr (V.int.inj (of_decide_eq_true z))
      have hat := atI_ints (ns := [(-1 : Int), n, n + 3, -2, -1 - n]) k0 (by show spot % 5 < ((5 : Nat) : Int); omega)
      have hkl : (spot % 5).toNat < [(-1 : Int), n, n + 3, -2, -1 - n].length := by show (spot % 5).toNat < 5; omega
      have hodd : [(-1 : Int), n, n + 3, -2, -1 - n].getD (spot % 5).toNat 0 < 0 ∨ (n.toNat : Int) ≤ [(-1 : Int), n, n + 3, -2, -1 - n].getD (spot % 5).toNat 0 := by
        have hx : [(-1 : Int), n, n + 3, -2, -1 - n].getD (spot % 5).toNat 0 ∈ [(-1 : Int), n, n + 3, -2, -1 - n] := by
          rw [List.getD_eq_getElem?_getD, List.getElem?_eq_getElem hkl]
          exact List.getElem_mem hkl
        rw [en] at hx ⊢
        exact odd_one (k := 0) _ hx
      generalize [(-1 : Int), n, n + 3, -2, -1 - n].getD (spot % 5).toNat 0 = odd at hat hodd
      refine ⟨_, rfl, _, rfl, _, rfl, _, rfl, _, _, rfl, rfl, _, rfl, _, _, rfl, rfl, (by show 5 ≤ sizeLine; decide), fun d hd => ?_⟩
      have sd := same_new hd (.lst [V.int (-1), V.int n, V.int (n + 3), V.int (-2), V.int (-1 - n)])
      refine ⟨_, rfl, _, _, rfl, rfl, (by show (0 : Int) < 5; decide), d, _, _, _, rfl, rfl, SqL.of upd_same, hat, ?_⟩
      refine ⟨b, as', bs, spot, odd, rfl, rb.same sd, by omega, by omega, fun l hl => Nat.le_trans (ob.sh l hl) (by decide), fun i x k e1 e2 => ?_⟩
      obtain ⟨r1, r2⟩ := putB (rp.same sd) (rb.same sd) e1 (But.upd _ x _)
      have sh30 : ∀ l ∈ bs, l.length ≤ 30 := fun l hl => by
        by_cases cc : spoil = 2 ∨ spoil = 6
        · exact (ob.2.1 (fun z => z) cc).sh l hl
        · exact Nat.le_trans ((ob.2.2 (fun z => z) cc).sh l hl) (by decide)
      exact ⟨ps, _, by rw [if_pos hc]; rfl, r1, r2, lp, by rw [List.length_set]; exact lb, op, ⟨fun _ => spoil2 sh30 e2 hodd, fun z => (z hc).elim, fun z => (z hc).elim⟩⟩
  clear rp rb lp lb op ob
  rintro σ8 H8 ⟨ps, bs, rfl, rp, rb, lp, lb, op, ob⟩
  rw [← lb] at op
  rw [← lp] at ob
  rw [← due_of op ob]
  have rp : RowsAt H8 p ps := ⟨as, rp⟩
  have rb : RowsAt H8 b bs := ⟨as', rb⟩
  have shp : ∀ l ∈ ps, l.length ≤ 40 := op.sh
  have shb : ∀ l ∈ bs, l.length ≤ 40 := ob.sh
  refine ⟨_, rfl, p, ps, rfl, rp, by omega, fun o1 H9 s9 _ ro => ?_⟩
  refine ⟨_, rfl, b, bs, rfl, rb.same s9, by omega, fun o2 H10 s10 _ ro2 => ?_⟩
  replace ro := ro.same s10
  replace rp := rp.same (s9.trans s10)
  replace rb := rb.same (s9.trans s10)
  refine ⟨4, rfl, by decide, by decide, for_range (lo := 0) (n := (4 : Int).toNat) (fun i σ H' => ∃ v : Option V, σ = [some (.ref p0), some (.int n), some (.int m), some (.ref p), some (.ref b), some (.int spoil), some (.int spot), some (.str (due ps bs)), some (.ref o1), some (.ref o2), v] ∧ Same H10 H') ⟨none, rfl, Same.refl _⟩ ?_ ?_⟩
  · rintro i σ H' hi ⟨v, rfl, s'⟩
    refine ⟨_, rfl, _, rfl, _, rfl, _, o1, o2, ps, bs, rfl, ro.same s', ro2.same s', by omega, by omega, fun l hl => Nat.le_trans (shp l hl) (by decide), fun l hl => Nat.le_trans (shb l hl) (by decide), fun H'' s'' => ?_⟩
    refine ⟨_, rfl, rfl, _, rfl, iteNS rfl ?_⟩
    exact ⟨_, rfl, s'.trans s''⟩
  · rintro σ H' ⟨v, rfl, s'⟩
    refine ⟨_, rfl, _, rfl, o1, p, ps, rfl, ro.same s', rp.same s', by omega, fun l hl => Nat.le_trans (shp l hl) (by decide), true, rfl, iteT ?_⟩
    exact ⟨_, rfl, _, rfl, o2, b, bs, rfl, ro2.same s', rb.same s', by omega, fun l hl => Nat.le_trans (shb l hl) (by decide), q _⟩
end
theorem all_mk {l : PySem.W.OpenLaw} {w : World} {K : PySem.W.Frag} {h : Heap} {mg : Str → Option Value} {fa f1 f2 f3 f4 f5 f6 f7 f8 f9 f10 f11 f12 f13 f14 f15 f16 f17 f18 f19 f20 f21 f22 : Addr} (X : K.In h) (G : h.Ns mainGlobals mg) (hfa : mg "law" = some (.ref fa))
    {od1 an1 od2 an2 od3 an3 od4 an4 od5 an5 od6 an6 od7 an7 od8 an8 od9 an9 od10 an10 od11 an11 od12 an12 od13 an13 od14 an14 od15 an15 od16 an16 od17 an17 od18 an18 od19 an19 od20 an20 od21 an21 od22 an22 : Option Addr} {sl1 sl2 sl3 sl4 sl5 sl6 sl7 sl8 sl9 sl10 sl11 sl12 sl13 sl14 sl15 sl16 sl17 sl18 sl19 sl20 sl21 sl22 : Array (Option Value)} {oc1 kV1 dc1 pm1 cd1 ct1 oc2 kV2 dc2 pm2 cd2 ct2 oc3 kV3 dc3 pm3 cd3 ct3 oc4 kV4 dc4 pm4 cd4 ct4 oc5 kV5 dc5 pm5 cd5 ct5 oc6 kV6 dc6 pm6 cd6 ct6 oc7 kV7 dc7 pm7 cd7 ct7 oc8 kV8 dc8 pm8 cd8 ct8 oc9 kV9 dc9 pm9 cd9 ct9 oc10 kV10 dc10 pm10 cd10 ct10 oc11 kV11 dc11 pm11 cd11 ct11 oc12 kV12 dc12 pm12 cd12 ct12 oc13 kV13 dc13 pm13 cd13 ct13 oc14 kV14 dc14 pm14 cd14 ct14 oc15 kV15 dc15 pm15 cd15 ct15 oc16 kV16 dc16 pm16 cd16 ct16 oc17 kV17 dc17 pm17 cd17 ct17 oc18 kV18 dc18 pm18 cd18 ct18 oc19 kV19 dc19 pm19 cd19 ct19 oc20 kV20 dc20 pm20 cd20 ct20 oc21 kV21 dc21 pm21 cd21 ct21 oc22 kV22 dc22 pm22 cd22 ct22 : Value}
    {Cq : Addr} (aC : PySem.W.nsIn K mainGlobals "Asking" = some (some (.ref Cq))) (pg : PySem.W.plainGet K Cq Str.empty = true) (hd : PySem.W.hasDictIn K Cq = true) (po : PySem.W.plainOver K Cq = true) (sa : PySem.W.findIn K (.ref Cq) "__setattr__" = some (some (.builtin "object.__setattr__"))) (mk : PySem.W.makesIn K Cq = true) (kc : PySem.W.keepIn K (.ref Cq) = true) (n_pilots : PySem.W.findIn K (.ref Cq) "pilots" = some none) (n_boats : PySem.W.findIn K (.ref Cq) "boats" = some none) (n_asked : PySem.W.findIn K (.ref Cq) "asked" = some none) (n_pilot_of : PySem.W.findIn K (.ref Cq) "pilot_of" = some none)
    (a1 : PySem.W.nsIn K mainGlobals "rather" = some (some (.ref f1))) (l1 : K.lookup f1 = some ⟨oc1, od1, .func (PySem.W.fnOf "rather" "rather" (defArgs s_rather) (defBody s_rather) (defScope s_rather) .none kV1 dc1 pm1 an1 cd1 ct1), sl1⟩) (c1 : PySem.W.codeIn K cd1 "rather" = true) (k1 : PySem.W.keepIn K (.ref f1) = true)
    (a2 : PySem.W.nsIn K mainGlobals "refuse_no_such" = some (some (.ref f2))) (l2 : K.lookup f2 = some ⟨oc2, od2, .func (PySem.W.fnOf "refuse_no_such" "refuse_no_such" (defArgs s_refuse_no_such) (defBody s_refuse_no_such) (defScope s_refuse_no_such) .none kV2 dc2 pm2 an2 cd2 ct2), sl2⟩) (c2 : PySem.W.codeIn K cd2 "refuse_no_such" = true) (k2 : PySem.W.keepIn K (.ref f2) = true)
    (a3 : PySem.W.nsIn K mainGlobals "refuse_twice" = some (some (.ref f3))) (l3 : K.lookup f3 = some ⟨oc3, od3, .func (PySem.W.fnOf "refuse_twice" "refuse_twice" (defArgs s_refuse_twice) (defBody s_refuse_twice) (defScope s_refuse_twice) .none kV3 dc3 pm3 an3 cd3 ct3), sl3⟩) (c3 : PySem.W.codeIn K cd3 "refuse_twice" = true) (k3 : PySem.W.keepIn K (.ref f3) = true)
    (a4 : PySem.W.nsIn K mainGlobals "refuse_wrong" = some (some (.ref f4))) (l4 : K.lookup f4 = some ⟨oc4, od4, .func (PySem.W.fnOf "refuse_wrong" "refuse_wrong" (defArgs s_refuse_wrong) (defBody s_refuse_wrong) (defScope s_refuse_wrong) .none kV4 dc4 pm4 an4 cd4 ct4), sl4⟩) (c4 : PySem.W.codeIn K cd4 "refuse_wrong" = true) (k4 : PySem.W.keepIn K (.ref f4) = true)
    (a5 : PySem.W.findIn K (.ref Cq) "__init__" = some (some (.ref f5))) (i5 : PySem.W.isFn K (.ref f5) = true) (l5 : K.lookup f5 = some ⟨oc5, od5, .func (PySem.W.fnOf "__init__" "Asking.__init__" (defArgs s_Asking___init__) (defBody s_Asking___init__) (defScope s_Asking___init__) .none kV5 dc5 pm5 an5 cd5 ct5), sl5⟩) (c5 : PySem.W.codeIn K cd5 "Asking.__init__" = true) (k5 : PySem.W.keepIn K (.ref f5) = true)
    (a6 : PySem.W.findIn K (.ref Cq) "has_boats_left" = some (some (.ref f6))) (i6 : PySem.W.isFn K (.ref f6) = true) (l6 : K.lookup f6 = some ⟨oc6, od6, .func (PySem.W.fnOf "has_boats_left" "Asking.has_boats_left" (defArgs s_Asking_has_boats_left) (defBody s_Asking_has_boats_left) (defScope s_Asking_has_boats_left) .none kV6 dc6 pm6 an6 cd6 ct6), sl6⟩) (c6 : PySem.W.codeIn K cd6 "Asking.has_boats_left" = true) (k6 : PySem.W.keepIn K (.ref f6) = true)
    (a7 : PySem.W.findIn K (.ref Cq) "ask" = some (some (.ref f7))) (i7 : PySem.W.isFn K (.ref f7) = true) (l7 : K.lookup f7 = some ⟨oc7, od7, .func (PySem.W.fnOf "ask" "Asking.ask" (defArgs s_Asking_ask) (defBody s_Asking_ask) (defScope s_Asking_ask) .none kV7 dc7 pm7 an7 cd7 ct7), sl7⟩) (c7 : PySem.W.codeIn K cd7 "Asking.ask" = true) (k7 : PySem.W.keepIn K (.ref f7) = true)
    (a8 : PySem.W.findIn K (.ref Cq) "ask_from" = some (some (.ref f8))) (i8 : PySem.W.isFn K (.ref f8) = true) (l8 : K.lookup f8 = some ⟨oc8, od8, .func (PySem.W.fnOf "ask_from" "Asking.ask_from" (defArgs s_Asking_ask_from) (defBody s_Asking_ask_from) (defScope s_Asking_ask_from) .none kV8 dc8 pm8 an8 cd8 ct8), sl8⟩) (c8 : PySem.W.codeIn K cd8 "Asking.ask_from" = true) (k8 : PySem.W.keepIn K (.ref f8) = true)
    (a9 : PySem.W.nsIn K mainGlobals "asking_in_the_end" = some (some (.ref f9))) (l9 : K.lookup f9 = some ⟨oc9, od9, .func (PySem.W.fnOf "asking_in_the_end" "asking_in_the_end" (defArgs s_asking_in_the_end) (defBody s_asking_in_the_end) (defScope s_asking_in_the_end) .none kV9 dc9 pm9 an9 cd9 ct9), sl9⟩) (c9 : PySem.W.codeIn K cd9 "asking_in_the_end" = true) (k9 : PySem.W.keepIn K (.ref f9) = true)
    (a10 : PySem.W.nsIn K mainGlobals "paired" = some (some (.ref f10))) (l10 : K.lookup f10 = some ⟨oc10, od10, .func (PySem.W.fnOf "paired" "paired" (defArgs s_paired) (defBody s_paired) (defScope s_paired) .none kV10 dc10 pm10 an10 cd10 ct10), sl10⟩) (c10 : PySem.W.codeIn K cd10 "paired" = true) (k10 : PySem.W.keepIn K (.ref f10) = true)
    (a11 : PySem.W.nsIn K mainGlobals "askings" = some (some (.ref f11))) (l11 : K.lookup f11 = some ⟨oc11, od11, .func (PySem.W.fnOf "askings" "askings" (defArgs s_askings) (defBody s_askings) (defScope s_askings) .none kV11 dc11 pm11 an11 cd11 ct11), sl11⟩) (c11 : PySem.W.codeIn K cd11 "askings" = true) (k11 : PySem.W.keepIn K (.ref f11) = true)
    (a12 : PySem.W.nsIn K mainGlobals "loose" = some (some (.ref f12))) (l12 : K.lookup f12 = some ⟨oc12, od12, .func (PySem.W.fnOf "loose" "loose" (defArgs s_loose) (defBody s_loose) (defScope s_loose) .none kV12 dc12 pm12 an12 cd12 ct12), sl12⟩) (c12 : PySem.W.codeIn K cd12 "loose" = true) (k12 : PySem.W.keepIn K (.ref f12) = true)
    (a13 : PySem.W.nsIn K mainGlobals "stays" = some (some (.ref f13))) (l13 : K.lookup f13 = some ⟨oc13, od13, .func (PySem.W.fnOf "stays" "stays" (defArgs s_stays) (defBody s_stays) (defScope s_stays) .none kV13 dc13 pm13 an13 cd13 ct13), sl13⟩) (c13 : PySem.W.codeIn K cd13 "stays" = true) (k13 : PySem.W.keepIn K (.ref f13) = true)
    (a14 : PySem.W.nsIn K mainGlobals "_law_whole" = some (some (.ref f14))) (l14 : K.lookup f14 = some ⟨oc14, od14, .func (PySem.W.fnOf "_law_whole" "_law_whole" (defArgs s_l_whole) (defBody s_l_whole) (defScope s_l_whole) .none kV14 dc14 pm14 an14 cd14 ct14), sl14⟩) (c14 : PySem.W.codeIn K cd14 "_law_whole" = true) (k14 : PySem.W.keepIn K (.ref f14) = true)
    (a15 : PySem.W.nsIn K mainGlobals "_law_at" = some (some (.ref f15))) (l15 : K.lookup f15 = some ⟨oc15, od15, .func (PySem.W.fnOf "_law_at" "_law_at" (defArgs s_l_at) (defBody s_l_at) (defScope s_l_at) .none kV15 dc15 pm15 an15 cd15 ct15), sl15⟩) (c15 : PySem.W.codeIn K cd15 "_law_at" = true) (k15 : PySem.W.keepIn K (.ref f15) = true)
    (a16 : PySem.W.nsIn K mainGlobals "_law_sides" = some (some (.ref f16))) (l16 : K.lookup f16 = some ⟨oc16, od16, .func (PySem.W.fnOf "_law_sides" "_law_sides" (defArgs s_l_sides) (defBody s_l_sides) (defScope s_l_sides) .none kV16 dc16 pm16 an16 cd16 ct16), sl16⟩) (c16 : PySem.W.codeIn K cd16 "_law_sides" = true) (k16 : PySem.W.keepIn K (.ref f16) = true)
    (a17 : PySem.W.nsIn K mainGlobals "_law_kept" = some (some (.ref f17))) (l17 : K.lookup f17 = some ⟨oc17, od17, .func (PySem.W.fnOf "_law_kept" "_law_kept" (defArgs s_l_kept) (defBody s_l_kept) (defScope s_l_kept) .none kV17 dc17 pm17 an17 cd17 ct17), sl17⟩) (c17 : PySem.W.codeIn K cd17 "_law_kept" = true) (k17 : PySem.W.keepIn K (.ref f17) = true)
    (a18 : PySem.W.nsIn K mainGlobals "_law_copies" = some (some (.ref f18))) (l18 : K.lookup f18 = some ⟨oc18, od18, .func (PySem.W.fnOf "_law_copies" "_law_copies" (defArgs s_l_copies) (defBody s_l_copies) (defScope s_l_copies) .none kV18 dc18 pm18 an18 cd18 ct18), sl18⟩) (c18 : PySem.W.codeIn K cd18 "_law_copies" = true) (k18 : PySem.W.keepIn K (.ref f18) = true)
    (a19 : PySem.W.nsIn K mainGlobals "_law_strange" = some (some (.ref f19))) (l19 : K.lookup f19 = some ⟨oc19, od19, .func (PySem.W.fnOf "_law_strange" "_law_strange" (defArgs s_l_strange) (defBody s_l_strange) (defScope s_l_strange) .none kV19 dc19 pm19 an19 cd19 ct19), sl19⟩) (c19 : PySem.W.codeIn K cd19 "_law_strange" = true) (k19 : PySem.W.keepIn K (.ref f19) = true)
    (a20 : PySem.W.nsIn K mainGlobals "_law_doubled" = some (some (.ref f20))) (l20 : K.lookup f20 = some ⟨oc20, od20, .func (PySem.W.fnOf "_law_doubled" "_law_doubled" (defArgs s_l_doubled) (defBody s_l_doubled) (defScope s_l_doubled) .none kV20 dc20 pm20 an20 cd20 ct20), sl20⟩) (c20 : PySem.W.codeIn K cd20 "_law_doubled" = true) (k20 : PySem.W.keepIn K (.ref f20) = true)
    (a21 : PySem.W.nsIn K mainGlobals "_law_answer" = some (some (.ref f21))) (l21 : K.lookup f21 = some ⟨oc21, od21, .func (PySem.W.fnOf "_law_answer" "_law_answer" (defArgs s_l_answer) (defBody s_l_answer) (defScope s_l_answer) .none kV21 dc21 pm21 an21 cd21 ct21), sl21⟩) (c21 : PySem.W.codeIn K cd21 "_law_answer" = true) (k21 : PySem.W.keepIn K (.ref f21) = true)
    (a22 : PySem.W.nsIn K mainGlobals "law" = some (some (.ref f22))) (l22 : K.lookup f22 = some ⟨oc22, od22, .func (PySem.W.fnOf "law" "law" (defArgs s_law) (defBody s_law) (defScope s_law) .none kV22 dc22 pm22 an22 cd22 ct22), sl22⟩) (c22 : PySem.W.codeIn K cd22 "law" = true) (k22 : PySem.W.keepIn K (.ref f22) = true)
    (z_len : PySem.W.nsIn K mainGlobals "len" = some none) (z_range : PySem.W.nsIn K mainGlobals "range" = some none) (z_list : PySem.W.nsIn K mainGlobals "list" = some none) (z_int : PySem.W.nsIn K mainGlobals "int" = some none) (z_bool : PySem.W.nsIn K mainGlobals "bool" = some none) (z_tuple : PySem.W.nsIn K mainGlobals "tuple" = some none) (z_isinstance : PySem.W.nsIn K mainGlobals "isinstance" = some none) (z_reversed : PySem.W.nsIn K mainGlobals "reversed" = some none) (z_sorted : PySem.W.nsIn K mainGlobals "sorted" = some none) (z_min : PySem.W.nsIn K mainGlobals "min" = some none) (z_max : PySem.W.nsIn K mainGlobals "max" = some none) (z_set : PySem.W.nsIn K mainGlobals "set" = some none) (z_dict : PySem.W.nsIn K mainGlobals "dict" = some none) (z_enumerate : PySem.W.nsIn K mainGlobals "enumerate" = some none) (z_sum : PySem.W.nsIn K mainGlobals "sum" = some none) {Cp Cn Ct : Addr} (ea1 : PySem.W.nsIn K mainGlobals "PairError" = some (some (.ref Cp))) (ea2 : PySem.W.nsIn K mainGlobals "NoSuch" = some (some (.ref Cn))) (ea3 : PySem.W.nsIn K mainGlobals "Twice" = some (some (.ref Ct))) (ea4 : PySem.W.nsIn K mainGlobals "ValueError" = some none) (eCn2 : PySem.W.findIn K (.ref Cn) "__getattribute__" = some (some (.builtin "BaseException.__getattribute__"))) (eCn3 : PySem.W.findIn K (.ref Cn) "__getattr__" = some none) (eCn4 : PySem.W.findIn K (.ref Cn) "__class__" = some (some (.builtin "object.__class__"))) (eCn5 : PySem.W.mroIn K Cn (.type "BaseException") = some true) (eCn6 : PySem.W.mroIn K Cn (.type "object") = some true) (eCt2 : PySem.W.findIn K (.ref Ct) "__getattribute__" = some (some (.builtin "BaseException.__getattribute__"))) (eCt3 : PySem.W.findIn K (.ref Ct) "__getattr__" = some none) (eCt4 : PySem.W.findIn K (.ref Ct) "__class__" = some (some (.builtin "object.__class__"))) (eCt5 : PySem.W.mroIn K Ct (.type "BaseException") = some true) (eCt6 : PySem.W.mroIn K Ct (.type "object") = some true) (ex1 : PySem.W.exmOne K (.ref Cn) (.ref Cp) = some true) (ex2 : PySem.W.exmOne K (.ref Ct) (.ref Cp) = some true) (ek1 : PySem.W.kitOne K (.ref Cn) (.ref Cn) = some true) (ek2 : PySem.W.kitOne K (.ref Cn) (.ref Ct) = some false) (ek3 : PySem.W.kitOne K (.ref Cn) (.type "ValueError") = some true) (ek4 : PySem.W.kitOne K (.ref Ct) (.ref Cn) = some false) (ek5 : PySem.W.kitOne K (.ref Ct) (.ref Ct) = some true) (ek6 : PySem.W.kitOne K (.ref Ct) (.type "ValueError") = some true) (eo1 : PySem.W.excIn K Cn [.type "ValueError", .type "Exception", .type "BaseException", .type "object"] "ValueError.__new__" = true) (eo2 : PySem.W.excIn K Ct [.type "ValueError", .type "Exception", .type "BaseException", .type "object"] "ValueError.__new__" = true) :
    ∃ fd : FuncData, (∀ (s : Shared) (v : Value), BindsTo s fd ⟨[v], []⟩ [("_law_script", v)]) ∧ ∀ base : Heap, K.In base → base.Ns mainGlobals mg → FnOk l.prog w K mg base CX0 30 fa fd ["_law_script"] (spLaw K) := by
  have e := hfa.symm.trans (PySem.W.mg_of X G a22)
  cases e
  have F1 := fun_mk (st := s_rather) l1 c1 k1
  have b1 := F1.binds (ps := ["wishes", "one", "other"]) fun _ _ _ _ _ _ us hl => match us, hl with | [_, _, _], _ => rfl
  have F2 := fun_mk (st := s_refuse_no_such) l2 c2 k2
  have b2 := F2.binds (ps := ["side", "others"]) fun _ _ _ _ _ _ us hl => match us, hl with | [_, _], _ => rfl
  have F3 := fun_mk (st := s_refuse_twice) l3 c3 k3
  have b3 := F3.binds (ps := ["side"]) fun _ _ _ _ _ _ us hl => match us, hl with | [_], _ => rfl
  have F4 := fun_mk (st := s_refuse_wrong) l4 c4 k4
  have b4 := F4.binds (ps := ["pilots", "boats"]) fun _ _ _ _ _ _ us hl => match us, hl with | [_, _], _ => rfl
  have F5 := fun_mk (st := s_Asking___init__) l5 c5 k5
  have b5 := F5.binds (ps := ["self", "pilots", "boats"]) fun _ _ _ _ _ _ us hl => match us, hl with | [_, _, _], _ => rfl
  have F6 := fun_mk (st := s_Asking_has_boats_left) l6 c6 k6
  have b6 := F6.binds (ps := ["self", "pilot"]) fun _ _ _ _ _ _ us hl => match us, hl with | [_, _], _ => rfl
  have F7 := fun_mk (st := s_Asking_ask) l7 c7 k7
  have b7 := F7.binds (ps := ["self", "pilot"]) fun _ _ _ _ _ _ us hl => match us, hl with | [_, _], _ => rfl
  have F8 := fun_mk (st := s_Asking_ask_from) l8 c8 k8
  have b8 := F8.binds (ps := ["self", "pilot"]) fun _ _ _ _ _ _ us hl => match us, hl with | [_, _], _ => rfl
  have F9 := fun_mk (st := s_asking_in_the_end) l9 c9 k9
  have b9 := F9.binds (ps := ["pilots", "boats"]) fun _ _ _ _ _ _ us hl => match us, hl with | [_, _], _ => rfl
  have F10 := fun_mk (st := s_paired) l10 c10 k10
  have b10 := F10.binds (ps := ["pilots", "boats"]) fun _ _ _ _ _ _ us hl => match us, hl with | [_, _], _ => rfl
  have F11 := fun_mk (st := s_askings) l11 c11 k11
  have b11 := F11.binds (ps := ["pilots", "boats"]) fun _ _ _ _ _ _ us hl => match us, hl with | [_, _], _ => rfl
  have F12 := fun_mk (st := s_loose) l12 c12 k12
  have b12 := F12.binds (ps := ["pilots", "boats", "pairs"]) fun _ _ _ _ _ _ us hl => match us, hl with | [_, _, _], _ => rfl
  have F13 := fun_mk (st := s_stays) l13 c13 k13
  have b13 := F13.binds (ps := ["pilots", "boats", "pairs"]) fun _ _ _ _ _ _ us hl => match us, hl with | [_, _, _], _ => rfl
  have F14 := fun_mk (st := s_l_whole) l14 c14 k14
  have b14 := F14.binds (ps := ["_law_found"]) fun _ _ _ _ _ _ us hl => match us, hl with | [_], _ => rfl
  have F15 := fun_mk (st := s_l_at) l15 c15 k15
  have b15 := F15.binds (ps := ["_law_script", "_law_k"]) fun _ _ _ _ _ _ us hl => match us, hl with | [_, _], _ => rfl
  have F16 := fun_mk (st := s_l_sides) l16 c16 k16
  have b16 := F16.binds (ps := ["_law_cells", "_law_first", "_law_second"]) fun _ _ _ _ _ _ us hl => match us, hl with | [_, _, _], _ => rfl
  have F17 := fun_mk (st := s_l_kept) l17 c17 k17
  have b17 := F17.binds (ps := ["_law_found", "_law_due"]) fun _ _ _ _ _ _ us hl => match us, hl with | [_, _], _ => rfl
  have F18 := fun_mk (st := s_l_copies) l18 c18 k18
  have b18 := F18.binds (ps := ["_law_lists"]) fun _ _ _ _ _ _ us hl => match us, hl with | [_], _ => rfl
  have F19 := fun_mk (st := s_l_strange) l19 c19 k19
  have b19 := F19.binds (ps := ["_law_lists", "_law_spot", "_law_number"]) fun _ _ _ _ _ _ us hl => match us, hl with | [_, _, _], _ => rfl
  have F20 := fun_mk (st := s_l_doubled) l20 c20 k20
  have b20 := F20.binds (ps := ["_law_lists", "_law_spot"]) fun _ _ _ _ _ _ us hl => match us, hl with | [_, _], _ => rfl
  have F21 := fun_mk (st := s_l_answer) l21 c21 k21
  have b21 := F21.binds (ps := ["_law_way", "_law_pilots", "_law_boats"]) fun _ _ _ _ _ _ us hl => match us, hl with | [_, _, _], _ => rfl
  have F22 := fun_mk (st := s_law) l22 c22 k22
  have b22 := F22.binds (ps := ["_law_script"]) fun _ _ _ _ _ _ us hl => match us, hl with | [_], _ => rfl
  have B : Bl mg := ⟨PySem.W.mg_none_of X G z_len, PySem.W.mg_none_of X G z_range, PySem.W.mg_none_of X G z_list, PySem.W.mg_none_of X G z_int, PySem.W.mg_none_of X G z_bool, PySem.W.mg_none_of X G z_tuple, PySem.W.mg_none_of X G z_isinstance, PySem.W.mg_none_of X G z_reversed, PySem.W.mg_none_of X G z_sorted, PySem.W.mg_none_of X G z_min, PySem.W.mg_none_of X G z_max, PySem.W.mg_none_of X G z_set, PySem.W.mg_none_of X G z_dict, PySem.W.mg_none_of X G z_enumerate, PySem.W.mg_none_of X G z_sum⟩
  have T : AskT K Cq := ⟨⟨pg, hd, po, sa⟩, n_pilots, n_boats, n_asked, n_pilot_of⟩
  have eCn1 := cls_some eCn5
  have eCt1 := cls_some eCt5
  obtain ⟨ER, O_NoSuch, O_Twice⟩ := errs_mk X G ea1 ea2 ea3 ea4 eCn1 eCn2 eCn3 eCn4 eCn5 eCn6 eCt1 eCt2 eCt3 eCt4 eCt5 eCt6 ex1 ex2 ek1 ek2 ek3 ek4 ek5 ek6 eo1 eo2
  refine ⟨PySem.W.fnOf "law" "law" (defArgs s_law) (defBody s_law) (defScope s_law) .none kV22 dc22 pm22 an22 cd22 ct22, fun s v => .of_eq rfl, fun base _ _ => ?_⟩
  have C_rather : Cal l.prog w K mg base 1 "rather" ["wishes", "one", "other"] (sp_rather K) := ⟨_, _, ok_rather F1 B , b1, k1, PySem.W.mg_of X G a1⟩
  have C_refuse_no_such : CalX l.prog w K mg base 1 "refuse_no_such" ["side", "others"] (sp_refuse_no_such Cn Ct K) := ⟨_, _, ok_refuse_no_such F2 B O_NoSuch, b2, k2, PySem.W.mg_of X G a2⟩
  have C_refuse_twice : CalX l.prog w K mg base 1 "refuse_twice" ["side"] (sp_refuse_twice Cn Ct K) := ⟨_, _, ok_refuse_twice F3 B O_Twice, b3, k3, PySem.W.mg_of X G a3⟩
  have C_refuse_wrong : CalX l.prog w K mg base 2 "refuse_wrong" ["pilots", "boats"] (sp_refuse_wrong Cn Ct K) := ⟨_, _, ok_refuse_wrong F4 B C_refuse_no_such C_refuse_twice, b4, k4, PySem.W.mg_of X G a4⟩
  have N_Asking : CalN l.prog w K mg base 1 "Asking" Cq ["self", "pilots", "boats"] (sp_init Cq) := ⟨_, _, ok_Asking___init__ F5 B T, b5, ⟨mk, a5, i5, kc⟩, PySem.W.mg_of X G aC⟩
  have M_Asking_has_boats_left : CalM l.prog w K mg base 1 Cq "has_boats_left" ["self", "pilot"] (sp_has_boats_left Cq) := ⟨_, _, ok_Asking_has_boats_left F6 B T, b6, ⟨a6, i6, k6⟩⟩
  have M_Asking_ask : CalM l.prog w K mg base 2 Cq "ask" ["self", "pilot"] (sp_ask Cq) := ⟨_, _, ok_Asking_ask F7 B T C_rather, b7, ⟨a7, i7, k7⟩⟩
  have M_Asking_ask_from : CalM l.prog w K mg base 3 Cq "ask_from" ["self", "pilot"] (sp_ask_from Cq) := ⟨_, _, ok_Asking_ask_from F8 B T M_Asking_has_boats_left M_Asking_ask, b8, ⟨a8, i8, k8⟩⟩
  have C_asking_in_the_end : CalX l.prog w K mg base 4 "asking_in_the_end" ["pilots", "boats"] (sp_end Cq Cn Ct K) := ⟨_, _, ok_asking_in_the_end F9 B T C_refuse_wrong N_Asking M_Asking_ask_from, b9, k9, PySem.W.mg_of X G a9⟩
  have C_paired : CalX l.prog w K mg base 5 "paired" ["pilots", "boats"] (sp_pairedX Cn Ct K) := ⟨_, _, ok_paired F10 B T C_asking_in_the_end, b10, k10, PySem.W.mg_of X G a10⟩
  have C_askings : CalX l.prog w K mg base 5 "askings" ["pilots", "boats"] (sp_askingsX Cn Ct K) := ⟨_, _, ok_askings F11 B T C_asking_in_the_end, b11, k11, PySem.W.mg_of X G a11⟩
  have C_loose : CalX l.prog w K mg base 3 "loose" ["pilots", "boats", "pairs"] (sp_looseX Cn Ct K) := ⟨_, _, ok_loose F12 B C_refuse_wrong C_rather, b12, k12, PySem.W.mg_of X G a12⟩
  have C_stays : CalX l.prog w K mg base 4 "stays" ["pilots", "boats", "pairs"] (sp_staysX Cn Ct K) := ⟨_, _, ok_stays F13 B C_loose, b13, k13, PySem.W.mg_of X G a13⟩
  have C_l_whole : Cal l.prog w K mg base 1 "_law_whole" ["_law_found"] (sp_l_whole K) := ⟨_, _, ok_l_whole F14 B , b14, k14, PySem.W.mg_of X G a14⟩
  have C_l_at : Cal l.prog w K mg base 1 "_law_at" ["_law_script", "_law_k"] (sp_l_at K) := ⟨_, _, ok_l_at F15 B , b15, k15, PySem.W.mg_of X G a15⟩
  have C_l_sides : Cal l.prog w K mg base 1 "_law_sides" ["_law_cells", "_law_first", "_law_second"] (sp_l_sides K) := ⟨_, _, ok_l_sides F16 B , b16, k16, PySem.W.mg_of X G a16⟩
  have C_l_kept : Cal l.prog w K mg base 2 "_law_kept" ["_law_found", "_law_due"] (sp_l_kept K) := ⟨_, _, ok_l_kept F17 B C_l_whole, b17, k17, PySem.W.mg_of X G a17⟩
  have C_l_copies : Cal l.prog w K mg base 1 "_law_copies" ["_law_lists"] (sp_l_copies K) := ⟨_, _, ok_l_copies F18 B , b18, k18, PySem.W.mg_of X G a18⟩
  have C_l_strange : Cal l.prog w K mg base 1 "_law_strange" ["_law_lists", "_law_spot", "_law_number"] (sp_l_strange K) := ⟨_, _, ok_l_strange F19 B , b19, k19, PySem.W.mg_of X G a19⟩
  have C_l_doubled : Cal l.prog w K mg base 1 "_law_doubled" ["_law_lists", "_law_spot"] (sp_l_doubled K) := ⟨_, _, ok_l_doubled F20 B , b20, k20, PySem.W.mg_of X G a20⟩
  have C_l_answer : Cal l.prog w K mg base 22 "_law_answer" ["_law_way", "_law_pilots", "_law_boats"] (sp_l_answer K) := ⟨_, _, ok_l_answer F21 B ER (ref_paired C_paired) (ref_askings C_askings) (ref_loose C_loose) (ref_stays C_stays), b21, k21, PySem.W.mg_of X G a21⟩
  exact ok_law F22 B C_l_at C_l_sides C_l_copies C_l_kept C_l_strange C_l_doubled C_l_answer
theorem walk {l : PySem.W.OpenLaw} {q : Program} {loose : List Str} {XP : (Str → Option Value) → Heap → Prop} {YP : World → Heap → Prop} {d : DefRec} {K : Params → PySem.W.Frag} (hn : l.most = some 63) (hdf : d.params.defaults = [])
    (hY : ∀ (w : World) (h : Heap), YP w h → (K w.params).In h)
    (F : ∀ (w : World) (mg : Str → Option Value) (fa : Addr) (h : Heap), (K w.params).In h → h.Ns mainGlobals mg → mg d.name = some (.ref fa) →
      ∃ fd : FuncData, (∀ (s : Shared) (u : Value), BindsTo s fd ⟨[u], []⟩ [("_law_script", u)]) ∧ ∀ base : Heap, (K w.params).In base → base.Ns mainGlobals mg → FnOk l.prog w (K w.params) mg base CX0 30 fa fd ["_law_script"] (spLaw (K w.params))) :
    PySem.W.WalkO q loose XP YP l.row.toRowW d [] (fun f vs => PySem.call f vs) :=
  L2.walk_of (n := 63) (k := 30) (x := "_law_script") (CX := fun _ => CX0) (sp := fun w => spLaw (K w.params)) hn (by decide) hdf ⟨rfl, by decide, by decide⟩ hY F (fun _ _ a ns hl _ hS => ⟨a, ns, rfl, hS, hl, fun _ => rfl⟩) fun _ _ _ _ _ z => z
end Mine
open PySem PySem.W PyProof.Rows
set_option maxRecDepth 100000 in
set_option maxHeartbeats 0 in
theorem PySem.Challenge.cw_pilotpair_k02_refused_holds : PySem.Challenge.rw_pilotpair_k02_refused.Holds := by
  w_on; o_law; k_head; (case hw => w_witness2)
  k_fill
  refine Mine.walk (l := PySem.Challenge.rw_pilotpair_k02_refused) rfl rfl (fun w h Y => PySem.W.kIn_of Y) ?F
  case F =>
    intro w mg fa h KX G hmg
    refine' Mine.all_mk KX G hmg ?aC ?pg ?hd ?po ?sa ?mk ?kc ?n_pilots ?n_boats ?n_asked ?n_pilot_of ?a1 ?l1 ?c1 ?k1 ?a2 ?l2 ?c2 ?k2 ?a3 ?l3 ?c3 ?k3 ?a4 ?l4 ?c4 ?k4 ?a5 ?i5 ?l5 ?c5 ?k5 ?a6 ?i6 ?l6 ?c6 ?k6 ?a7 ?i7 ?l7 ?c7 ?k7 ?a8 ?i8 ?l8 ?c8 ?k8 ?a9 ?l9 ?c9 ?k9 ?a10 ?l10 ?c10 ?k10 ?a11 ?l11 ?c11 ?k11 ?a12 ?l12 ?c12 ?k12 ?a13 ?l13 ?c13 ?k13 ?a14 ?l14 ?c14 ?k14 ?a15 ?l15 ?c15 ?k15 ?a16 ?l16 ?c16 ?k16 ?a17 ?l17 ?c17 ?k17 ?a18 ?l18 ?c18 ?k18 ?a19 ?l19 ?c19 ?k19 ?a20 ?l20 ?c20 ?k20 ?a21 ?l21 ?c21 ?k21 ?a22 ?l22 ?c22 ?k22 ?z_len ?z_range ?z_list ?z_int ?z_bool ?z_tuple ?z_isinstance ?z_reversed ?z_sorted ?z_min ?z_max ?z_set ?z_dict ?z_enumerate ?z_sum ?ea1 ?ea2 ?ea3 ?ea4 ?eCn2 ?eCn3 ?eCn4 ?eCn5 ?eCn6 ?eCt2 ?eCt3 ?eCt4 ?eCt5 ?eCt6 ?ex1 ?ex2 ?ek1 ?ek2 ?ek3 ?ek4 ?ek5 ?ek6 ?eo1 ?eo2
    (case aC => k_is)
    (case pg => k_is)
    (case hd => k_is)
    (case po => k_is)
    (case sa => k_is)
    (case mk => k_is)
    (case kc => k_is)
    (case n_pilots => k_is)
    (case n_boats => k_is)
    (case n_asked => k_is)
    (case n_pilot_of => k_is)
    (case a1 => k_is)
    (case l1 => k_is)
    (case c1 => k_is)
    (case k1 => k_is)
    (case a2 => k_is)
    (case l2 => k_is)
    (case c2 => k_is)
    (case k2 => k_is)
    (case a3 => k_is)
    (case l3 => k_is)
    (case c3 => k_is)
    (case k3 => k_is)
    (case a4 => k_is)
    (case l4 => k_is)
    (case c4 => k_is)
    (case k4 => k_is)
    (case a5 => k_is)
    (case i5 => k_is)
    (case l5 => k_is)
    (case c5 => k_is)
    (case k5 => k_is)
    (case a6 => k_is)
    (case i6 => k_is)
    (case l6 => k_is)
    (case c6 => k_is)
    (case k6 => k_is)
    (case a7 => k_is)
    (case i7 => k_is)
    (case l7 => k_is)
    (case c7 => k_is)
    (case k7 => k_is)
    (case a8 => k_is)
    (case i8 => k_is)
    (case l8 => k_is)
    (case c8 => k_is)
    (case k8 => k_is)
    (case a9 => k_is)
    (case l9 => k_is)
    (case c9 => k_is)
    (case k9 => k_is)
    (case a10 => k_is)
    (case l10 => k_is)
    (case c10 => k_is)
    (case k10 => k_is)
    (case a11 => k_is)
    (case l11 => k_is)
    (case c11 => k_is)
    (case k11 => k_is)
    (case a12 => k_is)
    (case l12 => k_is)
    (case c12 => k_is)
    (case k12 => k_is)
    (case a13 => k_is)
    (case l13 => k_is)
    (case c13 => k_is)
    (case k13 => k_is)
    (case a14 => k_is)
    (case l14 => k_is)
    (case c14 => k_is)
    (case k14 => k_is)
    (case a15 => k_is)
    (case l15 => k_is)
    (case c15 => k_is)
    (case k15 => k_is)
    (case a16 => k_is)
    (case l16 => k_is)
    (case c16 => k_is)
    (case k16 => k_is)
    (case a17 => k_is)
    (case l17 => k_is)
    (case c17 => k_is)
    (case k17 => k_is)
    (case a18 => k_is)
    (case l18 => k_is)
    (case c18 => k_is)
    (case k18 => k_is)
    (case a19 => k_is)
    (case l19 => k_is)
    (case c19 => k_is)
    (case k19 => k_is)
    (case a20 => k_is)
    (case l20 => k_is)
    (case c20 => k_is)
    (case k20 => k_is)
    (case a21 => k_is)
    (case l21 => k_is)
    (case c21 => k_is)
    (case k21 => k_is)
    (case a22 => k_is)
    (case l22 => k_is)
    (case c22 => k_is)
    (case k22 => k_is)
    (case z_len => k_is)
    (case z_range => k_is)
    (case z_list => k_is)
    (case z_int => k_is)
    (case z_bool => k_is)
    (case z_tuple => k_is)
    (case z_isinstance => k_is)
    (case z_reversed => k_is)
    (case z_sorted => k_is)
    (case z_min => k_is)
    (case z_max => k_is)
    (case z_set => k_is)
    (case z_dict => k_is)
    (case z_enumerate => k_is)
    (case z_sum => k_is)
    (case ea1 => k_is)
    (case ea2 => k_is)
    (case ea3 => k_is)
    (case ea4 => k_is)
    (case eCn2 => k_is)
    (case eCn3 => k_is)
    (case eCn4 => k_is)
    (case eCn5 => k_is)
    (case eCn6 => k_is)
    (case eCt2 => k_is)
    (case eCt3 => k_is)
    (case eCt4 => k_is)
    (case eCt5 => k_is)
    (case eCt6 => k_is)
    (case ex1 => kts_exm)
    (case ex2 => kts_exm)
    (case ek1 => kit_is)
    (case ek2 => kit_is)
    (case ek3 => kit_is)
    (case ek4 => kit_is)
    (case ek5 => kit_is)
    (case ek6 => kit_is)
    (case eo1 => k_exc)
    (case eo2 => k_exc)

