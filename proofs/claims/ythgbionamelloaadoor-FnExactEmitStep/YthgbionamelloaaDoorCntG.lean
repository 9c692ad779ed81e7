/-
  How many marks a grid takes.
-/
import Derived.Test.YthgbionamelloaaDoorMkGrid
namespace Go.Proofs.YthgbionamelloaaDoor
open Go.RowKit
set_option linter.unusedVariables false

theorem cntG (d : shGrid.D) (h : shGrid.sz d ≤ 1048576) : shGrid.cntV d ≤ 1000000000 := by
  have h1 := cntV_Grid d
  have h2 : Sh.cnt (.sl .int) d.2.2.1 = List.length (α := Int) d.2.2.1 := cnt_ints _
  have h3 := sz_Grid d
  have h4 : Sh.sz (.sl .int) d.2.2.1 = List.length (α := Int) d.2.2.1 := sz_ints _
  omega

end Go.Proofs.YthgbionamelloaaDoor
