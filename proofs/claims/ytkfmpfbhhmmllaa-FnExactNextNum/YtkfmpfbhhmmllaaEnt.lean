/-
  EntryOk, the model's and the program's: the number is from 1 to 1000000000, the text has 1 to 1000 bytes.
-/
import Derived.Test.YtkfmpfbhhmmllaaTyEntry
namespace Go.Proofs.Ytkfmpfbhhmmllaa
open Go.RowKit
set_option linter.unusedVariables false

def entB (x : Int) (n : Nat) : Bool := decide (1 ≤ x) && decide (x ≤ 1000000000) && decide (1 ≤ n) && decide (n ≤ 1000)

theorem entB_iff (x : Int) (n : Nat) : entB x n = true ↔ 1 ≤ x ∧ x ≤ 1000000000 ∧ 1 ≤ n ∧ n ≤ 1000 := by
  simp only [entB, Bool.and_eq_true, decide_eq_true_eq, and_assoc]

theorem seqOk_any (n : Int) (w : World) :
    Calls Try.prog 13 #[.int .i64 n] w fun e w' => e = .returned (.bool (decide (1 ≤ n) && decide (n ≤ 1000000000))) ∧ w' = w := by
  go_enter Try.func13, Try.ntmps13
  go_wp2
  all_goals (go_ret; refine ⟨?_, rfl⟩)
  all_goals (show Ending.returned (Value.bool _) = Ending.returned (Value.bool _))
  all_goals (congr 2; rw [Bool.eq_iff_iff]; simp_all <;> omega)

end Go.Proofs.Ytkfmpfbhhmmllaa
