/-
  The law FnExactGridRow over the contracts of its two functions.
-/
import Derived.Test.YtadnboknickfkaaDoorLGridRow
import Derived.Test.YtadnboknickfkaaDoorGrLI
import Derived.Test.YtadnboknickfkaaDoorGrLS
import Derived.Test.YtadnboknickfkaaDoorCntG
namespace Go.Proofs.YtadnboknickfkaaDoor
open Go.RowKit
set_option linter.unusedVariables false

theorem specRow_ok (c : List Value) (d : shGrid.D) (y : Int) (w : World) (h : Reads shGrid w c d) :
    Calls Tryd.prog 6 #[.agg c.toArray, .int .i64 y] w fun e w' => e = .returned (.string (rowA d y)) ∧ Below w.heap.size w w' := by
  obtain ⟨a, n, k, rfl, r⟩ := open_Grid h
  exact specRow_any _ _ _ _ a n k _ d.2.2.1 y w r
theorem implRow_ok (c : List Value) (d : shGrid.D) (y : Int) (w : World) (h : Reads shGrid w c d) :
    Calls Tryd.prog 8 #[.agg c.toArray, .int .i64 y] w fun e w' => e = .returned (.string (rowA d y)) ∧ Below w.heap.size w w' := by
  obtain ⟨a, n, k, rfl, r⟩ := open_Grid h
  exact implRow_any _ _ _ _ a n k _ d.2.2.1 y w r

theorem gridRow_law (cs : List Value) (d : shGrid.D) (y : Int) (w : World) (hr : Reads shGrid w cs d) :
    Calls Tryd.prog 3 #[.agg cs.toArray, .int .i64 y] w fun e w' => e = .returned (.bool true) ∧ Below w.heap.size w w' :=
  gridRow_over cs d y (rowA d y) w hr (cntG d) (fun w' c G h _ => specRow_ok c d y w' h.reads) (fun w' c G h _ => implRow_ok c d y w' h.reads)

end Go.Proofs.YtadnboknickfkaaDoor
