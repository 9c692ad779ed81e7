/-
  EntryOk, the model's and the program's: the number is from 1 to 1000000000, the text has 1 to 1000 bytes.
-/
import Derived.Test.YtbjmjmammpgbmaaTyEntry
namespace Go.Proofs.Ytbjmjmammpgbmaa
open Go.RowKit
set_option linter.unusedVariables false

def entB (x : Int) (n : Nat) : Bool := decide (1 ≤ x) && decide (x ≤ 1000000000) && decide (1 ≤ n) && decide (n ≤ 1000)

theorem entB_iff (x : Int) (n : Nat) : entB x n = true ↔ 1 ≤ x ∧ x ≤ 1000000000 ∧ 1 ≤ n ∧ n ≤ 1000 := by
  simp only [entB, Bool.and_eq_true, decide_eq_true_eq, and_assoc]

set_option maxRecDepth 100000 in
set_option maxHeartbeats 2000000 in
theorem specEnt_any (x0 : Int) (x1 : ByteArray) (w : World) (h1 : x1.size ≤ maxLen) :
    Calls Try.prog 48 #[.agg #[.int .i64 x0, .string x1]] w fun e w' => e = .returned (.bool (entB x0 x1.size)) ∧ Below w.heap.size w w' := by
  unfold maxLen at h1
  obtain ⟨n, hn⟩ : ∃ n, n = x1.size := ⟨_, rfl⟩
  go_enter Try.func48, Try.ntmps48
  go_wp2
  all_goals (go_ret; refine ⟨?_, (Below.refl _ _).alloc (Nat.le_refl _) _⟩)
  all_goals (show Ending.returned (Value.bool _) = Ending.returned (Value.bool _))
  all_goals (congr 2; rw [Bool.eq_iff_iff, entB_iff]; simp_all <;> omega)

theorem seqOk_any (n : Int) (w : World) :
    Calls Try.prog 39 #[.int .i64 n] w fun e w' => e = .returned (.bool (decide (1 ≤ n) && decide (n ≤ 1000000000))) ∧ w' = w := by
  go_enter Try.func39, Try.ntmps39
  go_wp2
  all_goals (go_ret; refine ⟨?_, rfl⟩)
  all_goals (show Ending.returned (Value.bool _) = Ending.returned (Value.bool _))
  all_goals (congr 2; rw [Bool.eq_iff_iff]; simp_all <;> omega)

theorem textSizeOk_any (n : Int) (w : World) :
    Calls Try.prog 40 #[.int .i64 n] w fun e w' => e = .returned (.bool (decide (1 ≤ n) && decide (n ≤ 1000))) ∧ w' = w := by
  go_enter Try.func40, Try.ntmps40
  go_wp2
  all_goals (go_ret; refine ⟨?_, rfl⟩)
  all_goals (show Ending.returned (Value.bool _) = Ending.returned (Value.bool _))
  all_goals (congr 2; rw [Bool.eq_iff_iff]; simp_all <;> omega)

set_option maxRecDepth 100000 in
set_option maxHeartbeats 2000000 in
theorem implEnt_any (x0 : Int) (x1 : ByteArray) (w : World) (h1 : x1.size ≤ maxLen) :
    Calls Try.prog 28 #[.agg #[.int .i64 x0, .string x1]] w fun e w' => e = .returned (.bool (entB x0 x1.size)) ∧ Below w.heap.size w w' := by
  unfold maxLen at h1
  go_enter Try.func28, Try.ntmps28
  go_wp2_with (first | (go_at_call 39; refine (seqOk_any _ _).mono ?_; rintro e w9 ⟨rfl, rfl⟩) | (go_at_call 40; refine (textSizeOk_any _ _).mono ?_; rintro e w9 ⟨rfl, rfl⟩))
  all_goals (go_ret; refine ⟨?_, (Below.refl _ _).alloc (Nat.le_refl _) _⟩)
  all_goals (show Ending.returned (Value.bool _) = Ending.returned (Value.bool _))
  all_goals (congr 2; rw [Bool.eq_iff_iff, entB_iff]; simp_all <;> omega)

end Go.Proofs.Ytbjmjmammpgbmaa
