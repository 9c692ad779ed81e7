/-
  The law FnTear, whatever the length.
-/
import Derived.Test.YtnifmkhijebamaaWFnTear
namespace Go.Proofs.Ytnifmkhijebamaa
open Go.RowKit
set_option linter.unusedVariables false

theorem tearLaw_any (a : Option Addr) (n cap : Nat) (zs : List Int) (w : World) (hl : zs.length = n) (hr : Rd w a zs) :
    Calls Try.prog 3 #[.slice a n cap] w fun e w' => e = .returned (.bool true) ∧ Below w.heap.size w w' := by
  by_cases hn : n ≤ 1048576
  · exact tearLaw_in a n cap zs w hl hn hr
  · have hlt : (1048576 : Int) < (n : Int) := by omega
    clear hr hl
    go_enter Try.func3, Try.ntmps3
    go_wp2
    go_ret
    exact ⟨rfl, Below.refl _ _⟩

end Go.Proofs.Ytnifmkhijebamaa
