/-
  The model's GridOk at any argument. By program (grs2gen.py).
-/
import Derived.Test.YtojalheohpkdoaaGrS
namespace Go.Proofs.Ytojalheohpkdoaa
open Go.RowKit
set_option linter.unusedVariables false


end Go.Proofs.Ytojalheohpkdoaa
