/-
  Plain facts on the steps of a tear: the first is what is safe, the last what is seen, neighbours differ by one byte at the end.
-/
import Derived.Test.YtnifmkhijebamaaTear
namespace Go.Proofs.Ytnifmkhijebamaa
open Go.RowKit
set_option linter.unusedVariables false

theorem tk_nat (xs ys : List Int) (i : Nat) (h : i ≤ tsteps xs ys) : tk xs ys (i : Int) = i := by
  unfold tk
  rw [if_neg (by omega), if_neg (by omega)]
  omega

theorem take_shared (xs ys : List Int) : xs.take (share xs ys) = ys.take (share xs ys) := by
  have h := share_le xs ys
  apply List.ext_getElem?
  intro i
  by_cases hi : i < share xs ys
  · rw [List.getElem?_take_of_lt hi, List.getElem?_take_of_lt hi]
    have h1 := share_eq xs ys i hi
    rw [List.getElem?_eq_getElem (by omega), List.getElem?_eq_getElem (by omega)] at h1 ⊢
    simpa using h1
  · rw [List.getElem?_eq_none (by simp; omega), List.getElem?_eq_none (by simp; omega)]

theorem tear_first (xs ys : List Int) : tear xs ys 0 = xs := by
  have h := tk_nat xs ys 0 (Nat.zero_le _)
  have h2 : tk xs ys 0 = 0 := h
  unfold tear tearAt
  rw [h2, if_pos (Nat.zero_le _)]
  simp

theorem tear_last (xs ys : List Int) : tear xs ys (tsteps xs ys : Nat) = ys := by
  have hs := share_le xs ys
  unfold tear tearAt
  rw [tk_nat xs ys _ (Nat.le_refl _)]
  unfold tsteps
  split
  · have e : xs.length - (xs.length - share xs ys + (ys.length - share xs ys)) = share xs ys := by omega
    have e2 : ys.length = share xs ys := by omega
    rw [e, take_shared, ← e2, List.take_length]
  · rw [List.take_of_length_le (by omega)]

/-- A step on the way down. -/
theorem tear_down (xs ys : List Int) (i : Nat) (h : i + 1 ≤ xs.length - share xs ys) : (tear xs ys (i : Nat)).length = (tear xs ys ((i + 1 : Nat) : Int)).length + 1 ∧ (tear xs ys (i : Nat)).take (tear xs ys ((i + 1 : Nat) : Int)).length = tear xs ys ((i + 1 : Nat) : Int) := by
  have hs := share_le xs ys
  have ht : i + 1 ≤ tsteps xs ys := by unfold tsteps; omega
  unfold tear
  rw [tk_nat xs ys i (by omega), tk_nat xs ys (i + 1) ht]
  unfold tearAt
  rw [if_pos (by omega), if_pos h]
  refine ⟨by rw [List.length_take, List.length_take]; omega, ?_⟩
  rw [List.take_take, List.length_take]
  congr 1
  omega

/-- A step on the way up. -/
theorem tear_up (xs ys : List Int) (i : Nat) (h : ¬ i + 1 ≤ xs.length - share xs ys) (ht : i + 1 ≤ tsteps xs ys) : (tear xs ys ((i + 1 : Nat) : Int)).length = (tear xs ys (i : Nat)).length + 1 ∧ (tear xs ys ((i + 1 : Nat) : Int)).take (tear xs ys (i : Nat)).length = tear xs ys (i : Nat) := by
  have hs := share_le xs ys
  unfold tear
  rw [tk_nat xs ys i (by omega), tk_nat xs ys (i + 1) ht]
  unfold tsteps at ht
  have e1 : tearAt xs ys i = ys.take (share xs ys + i - (xs.length - share xs ys)) := by
    unfold tearAt
    split
    · have e : xs.length - i = share xs ys := by omega
      have e3 : share xs ys + i - (xs.length - share xs ys) = share xs ys := by omega
      rw [e, e3, take_shared]
    · rfl
  have e2 : tearAt xs ys (i + 1) = ys.take (share xs ys + (i + 1) - (xs.length - share xs ys)) := by
    unfold tearAt
    rw [if_neg h]
  rw [e1, e2]
  refine ⟨by rw [List.length_take, List.length_take]; omega, ?_⟩
  rw [List.take_take, List.length_take]
  congr 1
  omega

theorem tear_same (xs ys : List Int) (h : tsteps xs ys = 0) : xs = ys := by
  have h1 := tear_first xs ys
  have h2 := tear_last xs ys
  rw [h] at h2
  exact h1.symm.trans h2

theorem tsteps_le (xs ys : List Int) : tsteps xs ys ≤ xs.length + ys.length := by unfold tsteps; omega

theorem tear_self (xs : List Int) (k : Int) : tear xs xs k = xs := by
  have hsh : ∀ l : List Int, share l l = l.length := by
    intro l
    induction l with
    | nil => rfl
    | cons a l ih => simp [share, ih]
  have ht : tsteps xs xs = 0 := by unfold tsteps; rw [hsh]; omega
  have hk : tk xs xs k = 0 := by have := tk_le xs xs k; omega
  unfold tear tearAt
  rw [hk, if_pos (Nat.zero_le _)]
  simp

end Go.Proofs.Ytnifmkhijebamaa
