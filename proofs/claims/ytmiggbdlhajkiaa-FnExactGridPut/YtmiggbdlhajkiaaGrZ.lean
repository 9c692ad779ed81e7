/-
  What clearing does to a grid's cells, as the model says it: cell by cell.
-/
import Derived.Test.YtmiggbdlhajkiaaGrX
namespace Go.Proofs.Ytmiggbdlhajkiaa
open Go.RowKit
set_option linter.unusedVariables false

/-- The place of a cell's other half (its own where it has none). -/
def otherM (zs : List Int) (i : Nat) : Int := if wd (at0 zs i) = 2 then (i : Int) + 1 else if at0 zs i = -1 then (i : Int) - 1 else (i : Int)
/-- Does the cell go? -/
def goesM (x y : Int) (zs : List Int) (i : Nat) : Bool := decide (x ≤ (i : Int)) && decide ((i : Int) < y) || decide (x ≤ otherM zs i) && decide (otherM zs i < y)
def clrM (x y : Int) (zs : List Int) : List Int := (List.range zs.length).map fun i => if goesM x y zs i = true then 32 else at0 zs i
theorem clrM_len {x y : Int} {zs : List Int} : (clrM x y zs).length = zs.length := by unfold clrM; simp
theorem clrM_at {x y : Int} {zs : List Int} {i : Nat} (h : i < zs.length) : at0 (clrM x y zs) i = if goesM x y zs i = true then 32 else at0 zs i := by
  unfold clrM
  conv => lhs; unfold at0
  rw [List.getElem?_map, List.getElem?_range h]
  rfl

end Go.Proofs.Ytmiggbdlhajkiaa
