/-
  The walk of the law FnExactNumText: it returns true and writes nothing that was there.
-/
import Derived.Test.YtmikibekioekmaeDoorNum
import Derived.Lib.SmallJoins
namespace Go.Proofs.YtmikibekioekmaeDoor
open Go.RowKit
set_option linter.unusedVariables false

theorem gPow : Tryd.prog.globalNamed "internal/strconv.uint64pow10" = some 3 := by kernel_rfl

end Go.Proofs.YtmikibekioekmaeDoor
