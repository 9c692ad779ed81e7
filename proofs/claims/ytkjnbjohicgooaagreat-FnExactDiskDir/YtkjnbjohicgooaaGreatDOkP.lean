/-
  A right disk, as the model asks it, in plain terms.
-/
import Derived.Test.YtkjnbjohicgooaaGreatIdsS
import Derived.Test.YtkjnbjohicgooaaGreatDUsed
namespace Go.Proofs.YtkjnbjohicgooaaGreat
open Go.RowKit
set_option linter.unusedVariables false

/-- The first k nodes rise and stay below next. -/
def nodesTo (l : List NodeD) (next : Int) (k : Nat) : Prop := ∀ i (hi : i < l.length), i < k → 1 ≤ (l[i]).1 ∧ (l[i]).1 < next ∧ ∀ j (hj : j < l.length), j + 1 = i → (l[j]).1 < (l[i]).1
/-- The first k links have names that rise, and Ids. -/
def keptTo (l : List LinkD) (k : Nat) : Prop := ∀ i (hi : i < l.length), i < k → isName (l[i]).1 ∧ 1 ≤ (l[i]).2.1 ∧ ∀ j (hj : j < l.length), j + 1 = i → ltS (l[j]).1 (l[i]).1 = true
/-- The first k Ids are unlike, and Ids of nodes. -/
def idsTo (ids nodes : List Int) (k : Nat) : Prop := ∀ i (hi : i < ids.length), i < k → hasN (ids.take i) (ids[i]) = false ∧ hasN nodes (ids[i]) = true
def dirL (l : List LinkD) (ts : List TurnD) : List LinkD := ts.foldl turnL l
def nodeIds (l : List NodeD) : List Int := l.map fun x => x.1

def limitsP (x0 x1 x2 : Int) (n3 n4 n5 : Nat) : Prop := 0 ≤ x0 ∧ x0 ≤ 60000 ∧ -1 ≤ x1 ∧ x1 ≤ 1000 ∧ 1 ≤ x2 ∧ x2 ≤ 1000000 ∧ n3 ≤ 8 ∧ n4 ≤ 8 ∧ n5 ≤ 40

/-- A disk is right, as the model asks it. -/
def specOkP (d : shDisk.D) : Prop :=
  limitsP d.1 d.2.1 d.2.2.1 (List.length d.2.2.2.1) (List.length d.2.2.2.2.1) (List.length d.2.2.2.2.2.1) ∧ nodesTo d.2.2.2.1 d.2.2.1 (List.length d.2.2.2.1) ∧ keptTo d.2.2.2.2.1 (List.length d.2.2.2.2.1) ∧
    (idsL d.2.2.2.2.1 d.2.2.2.2.2.1).length = List.length d.2.2.2.1 ∧ idsTo (idsL d.2.2.2.2.1 d.2.2.2.2.2.1) (nodeIds d.2.2.2.1) (idsL d.2.2.2.2.1 d.2.2.2.2.2.1).length ∧
    turnsOkL d.2.2.2.2.1 d.2.2.2.2.2.1 ∧ used d ≤ d.1
theorem nodesTo_succ {l : List NodeD} {next : Int} {k : Nat} (h : nodesTo l next k) (hk : k < l.length) (h1 : 1 ≤ (l[k]).1) (h2 : (l[k]).1 < next) (h3 : ∀ j (hj : j < l.length), j + 1 = k → (l[j]).1 < (l[k]).1) : nodesTo l next (k + 1) := by
  intro i hi hik
  by_cases e : i = k
  · subst e; exact ⟨h1, h2, h3⟩
  · exact h i hi (by omega)
theorem keptTo_succ {l : List LinkD} {k : Nat} (h : keptTo l k) (hk : k < l.length) (h1 : isName (l[k]).1) (h2 : 1 ≤ (l[k]).2.1) (h3 : ∀ j (hj : j < l.length), j + 1 = k → ltS (l[j]).1 (l[k]).1 = true) : keptTo l (k + 1) := by
  intro i hi hik
  by_cases e : i = k
  · subst e; exact ⟨h1, h2, h3⟩
  · exact h i hi (by omega)
theorem idsTo_succ {ids nodes : List Int} {k : Nat} (h : idsTo ids nodes k) (hk : k < ids.length) (h1 : hasN (ids.take k) (ids[k]) = false) (h2 : hasN nodes (ids[k]) = true) : idsTo ids nodes (k + 1) := by
  intro i hi hik
  by_cases e : i = k
  · subst e; exact ⟨h1, h2⟩
  · exact h i hi (by omega)

theorem turnsOk_snoc : ∀ {l : List LinkD} {ts : List TurnD} {t : TurnD}, turnsOkL l (ts ++ [t]) ↔ turnsOkL l ts ∧ turnOkL (dirL l ts) t
  | l, [], t => by simp [turnsOkL, dirL]
  | l, u :: ts, t => by
    have ih := turnsOk_snoc (l := turnL l u) (ts := ts) (t := t)
    simp only [List.cons_append, turnsOkL]
    rw [ih]
    simp [dirL, and_assoc]
theorem turnsOk_take {l : List LinkD} {ts : List TurnD} (h : turnsOkL l ts) (k : Nat) : turnsOkL l (ts.take k) := by
  induction ts generalizing l k with
  | nil => simpa using h
  | cons t ts ih =>
    cases k with
    | zero => simp [turnsOkL]
    | succ k => exact ⟨h.1, ih h.2 k⟩
theorem dirL_snoc (l : List LinkD) (ts : List TurnD) (t : TurnD) : dirL l (ts ++ [t]) = turnL (dirL l ts) t := by simp [dirL]
theorem turnL_len (l : List LinkD) (t : TurnD) : (turnL l t).length ≤ l.length + 1 := by
  unfold turnL
  split
  · rw [withL_len]; exact Nat.le_refl _
  · split
    · rw [withL_len]
      have := lessL_len (lessL l t.2.1) t.2.2.1
      have := lessL_len l t.2.1
      omega
    · have := lessL_len l t.2.1; omega
theorem dirL_len (l : List LinkD) (ts : List TurnD) : (dirL l ts).length ≤ l.length + ts.length := by
  induction ts generalizing l with
  | nil => simp [dirL]
  | cons t ts ih =>
    have h1 := ih (turnL l t)
    have h2 := turnL_len l t
    have h3 : dirL l (t :: ts) = dirL (turnL l t) ts := rfl
    rw [h3]
    simp only [List.length_cons]
    omega
theorem nodeIds_take (l : List NodeD) (k : Nat) (hk : k < l.length) (x : NodeD) (hx : l[k] = x) : nodeIds (l.take (k + 1)) = nodeIds (l.take k) ++ [x.1] := by
  unfold nodeIds; rw [List.take_succ_eq_append_getElem hk, hx]; simp

end Go.Proofs.YtkjnbjohicgooaaGreat
