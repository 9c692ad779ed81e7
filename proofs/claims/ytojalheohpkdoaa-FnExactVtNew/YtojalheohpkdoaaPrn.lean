/-
  Printable, the model's and the program's: one answer.
-/
import Derived.Test.YtojalheohpkdoaaRok
namespace Go.Proofs.Ytojalheohpkdoaa
open Go.RowKit
set_option linter.unusedVariables false

def prn (r : Int) : Bool := rok r && decide (32 ≤ r ∧ (r < 127 ∨ 159 < r))

end Go.Proofs.Ytojalheohpkdoaa
