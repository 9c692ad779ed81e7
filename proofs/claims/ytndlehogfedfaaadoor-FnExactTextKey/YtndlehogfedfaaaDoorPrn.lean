/-
  Printable, the model's and the program's: one answer.
-/
import Derived.Test.YtndlehogfedfaaaDoorRok
namespace Go.Proofs.YtndlehogfedfaaaDoor
open Go.RowKit
set_option linter.unusedVariables false

def prn (r : Int) : Bool := rok r && decide (32 ≤ r ∧ (r < 127 ∨ 159 < r))

theorem specPrn_any (r : Int) (w : World) :
    Calls Tryd.prog 28 #[.int .i64 r] w fun e w' => e = .returned (.bool (prn r)) ∧ w' = w := by
  by_cases hk : rok r = true
  · have e : prn r = decide (32 ≤ r ∧ (r < 127 ∨ 159 < r)) := by simp [prn, hk]
    have : r < 32 ∨ (32 ≤ r ∧ r < 127) ∨ (32 ≤ r ∧ 127 ≤ r ∧ r ≤ 159) ∨ (32 ≤ r ∧ 127 ≤ r ∧ 159 < r) := by omega
    rcases this with h | h | h | h
    all_goals
      rw [e]; clear e
      go_enter Tryd.func28, Tryd.ntmps28
      go_wp2_with fail
      refine (specRuneOk_any r _).mono ?_
      rintro e w1 ⟨rfl, rfl⟩
      rw [hk]
      go_wp2
      go_ret
      exact ⟨by congr 2; simp; omega, rfl⟩
  · have hk' : rok r = false := by simpa using hk
    have e : prn r = false := by simp [prn, hk']
    rw [e]
    go_enter Tryd.func28, Tryd.ntmps28
    go_wp2_with fail
    refine (specRuneOk_any r _).mono ?_
    rintro e w1 ⟨rfl, rfl⟩
    rw [hk']
    go_wp2
    go_ret
    exact ⟨rfl, rfl⟩

theorem implPrn_any (r : Int) (w : World) :
    Calls Tryd.prog 29 #[.int .i64 r] w fun e w' => e = .returned (.bool (prn r)) ∧ w' = w := by
  by_cases hk : rok r = true
  · have e : prn r = decide (32 ≤ r ∧ (r < 127 ∨ 159 < r)) := by simp [prn, hk]
    have : r < 32 ∨ (32 ≤ r ∧ r < 127) ∨ (32 ≤ r ∧ 127 ≤ r ∧ r ≤ 159) ∨ (32 ≤ r ∧ 127 ≤ r ∧ 159 < r) := by omega
    rcases this with h | h | h | h
    all_goals
      rw [e]; clear e
      go_enter Tryd.func29, Tryd.ntmps29
      go_wp2_with fail
      refine (implRuneOk_any r _).mono ?_
      rintro e w1 ⟨rfl, rfl⟩
      rw [hk]
      go_wp2
      go_ret
      exact ⟨by congr 2; simp; omega, rfl⟩
  · have hk' : rok r = false := by simpa using hk
    have e : prn r = false := by simp [prn, hk']
    rw [e]
    go_enter Tryd.func29, Tryd.ntmps29
    go_wp2_with fail
    refine (implRuneOk_any r _).mono ?_
    rintro e w1 ⟨rfl, rfl⟩
    rw [hk']
    go_wp2
    go_ret
    exact ⟨rfl, rfl⟩

end Go.Proofs.YtndlehogfedfaaaDoor
