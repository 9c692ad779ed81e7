/-
  need of the program: it gives up with its fault, or returns.
-/
import Derived.Test.YtbjmjmammpgbmaaKeep
import Derived.Handy
namespace Go.Proofs.Ytbjmjmammpgbmaa
open Go.RowKit
set_option linter.unusedVariables false

theorem need_yes (k : Int) (w : World) :
    Calls Try.prog 46 #[.bool true, .int .i64 k] w fun e w' => e = .returned (.tuple #[]) ∧ w' = w := by
  go_enter Try.func46, Try.ntmps46
  go_wp2
  go_returns
  exact ⟨rfl, rfl⟩

theorem need_no (k : Int) (w : World) :
    Calls Try.prog 46 #[.bool false, .int .i64 k] w fun e w' => e = .panicked [{ v := .iface 55 (.int .i64 k), recovered := false }] ∧ w' = w := by
  go_enter Try.func46, Try.ntmps46
  go_wp2
  exact ⟨rfl, rfl, rfl⟩

end Go.Proofs.Ytbjmjmammpgbmaa
