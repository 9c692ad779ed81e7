/-
  How many marks a terminal's data take.
-/
import Derived.Test.YthodinpflcbklaaDoorM4VB
namespace Go.Proofs.YthodinpflcbklaaDoor
open Go.RowKit
set_option linter.unusedVariables false

theorem cntT (d : shVt.D) (h : shVt.sz d ≤ 1048576) : shVt.cntV d ≤ 1000000000 := by
  have h1 := shVt.cntV_le d
  have h2 := shVt.cnt_le d
  have h3 : shVt.wd ≤ 100 := by decide
  have h4 : shVt.wd * (shVt.sz d + 1) ≤ 100 * 1048577 := Nat.mul_le_mul h3 (by omega)
  omega

end Go.Proofs.YthodinpflcbklaaDoor
