/-
  The grid with nothing in it.
-/
import Derived.Test.YtojalheohpkdoaaDoorGrU
namespace Go.Proofs.YtojalheohpkdoaaDoor
open Go.RowKit
set_option linter.unusedVariables false

def zeroG : GrD := ((0 : Int), (0 : Int), [], (0 : Int), (0 : Int), false, ())

/-- What a call answers that has nothing to say of a grid that isn't right. -/
def ansG (d N : GrD) : GrD := if gokB d = true then N else zeroG
theorem ansG_no {d N : GrD} (h : gokB d = false) : ansG d N = zeroG := by unfold ansG; rw [h]; rfl
theorem ansG_yes {d N : GrD} (h : gokB d = true) : ansG d N = N := by unfold ansG; rw [h]; rfl

theorem own_zeroG (w : World) (B : Nat) : Own shGrid w B [.int .i64 0, .int .i64 0, .slice none 0 0, .int .i64 0, .int .i64 0, .bool false] zeroG [] :=
  own_Grid (d := zeroG) (F2 := []) (.inl ⟨rfl, rfl, rfl⟩)

end Go.Proofs.YtojalheohpkdoaaDoor
