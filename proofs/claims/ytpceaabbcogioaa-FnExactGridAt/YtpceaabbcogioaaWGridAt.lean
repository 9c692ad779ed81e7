/-
  The law FnExactGridAt over the contracts of its two functions.
-/
import Derived.Test.YtpceaabbcogioaaGrA
import Derived.Test.YtpceaabbcogioaaCntG
import Derived.Test.YtpceaabbcogioaaLGridAt
namespace Go.Proofs.Ytpceaabbcogioaa
open Go.RowKit
set_option linter.unusedVariables false

theorem gridAt_law (cs : List Value) (d : shGrid.D) (x y : Int) (w : World) (hr : Reads shGrid w cs d) :
    Calls Try.prog 5 #[.agg cs.toArray, .int .i64 x, .int .i64 y] w fun e w' => e = .returned (.bool true) ∧ Below w.heap.size w w' :=
  gridAt_over cs d x y (atA d x y) w hr (cntG d) (fun w' c G h _ => specAt_ok c d x y w' h.reads) (fun w' c G h _ => implAt_ok c d x y w' h.reads)

end Go.Proofs.Ytpceaabbcogioaa
