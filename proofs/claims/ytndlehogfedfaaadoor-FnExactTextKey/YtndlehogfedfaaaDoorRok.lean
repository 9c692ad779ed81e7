/-
  RuneOk, the model's and the program's: one answer.
-/
import Derived.Test.YtndlehogfedfaaaDoorRows
import Derived.WalkKit
import Derived.WalkSpells
import Derived.WalkLawsBesides
import Derived.Deep.QuietTactic
import Derived.BigQuiet
namespace Go.Proofs.YtndlehogfedfaaaDoor
open Go.RowKit
set_option linter.unusedVariables false

def rok (r : Int) : Bool := decide (0 ≤ r ∧ r ≤ 1114111 ∧ (r < 55296 ∨ 57343 < r))

theorem specRuneOk_any (r : Int) (w : World) :
    Calls Tryd.prog 34 #[.int .i64 r] w fun e w' => e = .returned (.bool (rok r)) ∧ w' = w := by
  have e : rok r = (if 0 ≤ r then (if r ≤ 1114111 then (if r < 55296 then true else if 57343 < r then true else false) else false) else false) := by
    unfold rok; repeat' split
    all_goals simp; omega
  by_cases h1 : 0 ≤ r
  · by_cases h2 : r ≤ 1114111
    · by_cases h3 : r < 55296
      · rw [e]; clear e
        go_enter Tryd.func34, Tryd.ntmps34
        go_wp2
        go_ret
        exact ⟨by first | (simp [*]; done) | (simp [*]; omega), rfl⟩
      · by_cases h4 : 57343 < r
        all_goals
          rw [e]; clear e
          go_enter Tryd.func34, Tryd.ntmps34
          go_wp2
          go_ret
          exact ⟨by first | (simp [*]; done) | (simp [*]; omega), rfl⟩
    · rw [e]; clear e
      go_enter Tryd.func34, Tryd.ntmps34
      go_wp2
      go_ret
      exact ⟨by first | (simp [*]; done) | (simp [*]; omega), rfl⟩
  · rw [e]; clear e
    go_enter Tryd.func34, Tryd.ntmps34
    go_wp2
    go_ret
    exact ⟨by first | (simp [*]; done) | (simp [*]; omega), rfl⟩

theorem implRuneOk_any (r : Int) (w : World) :
    Calls Tryd.prog 35 #[.int .i64 r] w fun e w' => e = .returned (.bool (rok r)) ∧ w' = w := by
  have e : rok r = (if 0 ≤ r then (if r ≤ 1114111 then (if r < 55296 then true else if 57343 < r then true else false) else false) else false) := by
    unfold rok; repeat' split
    all_goals simp; omega
  by_cases h1 : 0 ≤ r
  · by_cases h2 : r ≤ 1114111
    · by_cases h3 : r < 55296
      · rw [e]; clear e
        go_enter Tryd.func35, Tryd.ntmps35
        go_wp2
        go_ret
        exact ⟨by first | (simp [*]; done) | (simp [*]; omega), rfl⟩
      · by_cases h4 : 57343 < r
        all_goals
          rw [e]; clear e
          go_enter Tryd.func35, Tryd.ntmps35
          go_wp2
          go_ret
          exact ⟨by first | (simp [*]; done) | (simp [*]; omega), rfl⟩
    · rw [e]; clear e
      go_enter Tryd.func35, Tryd.ntmps35
      go_wp2
      go_ret
      exact ⟨by first | (simp [*]; done) | (simp [*]; omega), rfl⟩
  · rw [e]; clear e
    go_enter Tryd.func35, Tryd.ntmps35
    go_wp2
    go_ret
    exact ⟨by first | (simp [*]; done) | (simp [*]; omega), rfl⟩

end Go.Proofs.YtndlehogfedfaaaDoor
