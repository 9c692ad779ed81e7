/-
  The model's copy of a grid, and its clamp.
-/
import Derived.Test.YtojalheohpkdoaaDoorGrJ
import Derived.Test.YtojalheohpkdoaaDoorGrV
import Derived.Deep.AppendLies
namespace Go.Proofs.YtojalheohpkdoaaDoor
open Go.RowKit
set_option linter.unusedVariables false
set_option linter.unusedSimpArgs false

/-- Where the cells of an answer lie, if there is one. -/
def RowAns (g : Bool) (w' : World) (B n : Nat) (R : GrD) (o : List Value) : Prop :=
  g = true → ∃ k kc, o = [.int .i64 R.1, .int .i64 R.2.1, .slice (some ⟨k, 0, none⟩) n kc, .int .i64 R.2.2.2.1, .int .i64 R.2.2.2.2.1, .bool R.2.2.2.2.2.1] ∧ w'.ownsRow B 3 1 (.slice (some ⟨k, 0, none⟩) n kc) n (R.2.2.1.map (Value.int .i64))

end Go.Proofs.YtojalheohpkdoaaDoor
