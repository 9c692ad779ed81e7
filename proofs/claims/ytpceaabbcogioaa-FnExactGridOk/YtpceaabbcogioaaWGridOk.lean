/-
  The law FnExactGridOk over the contracts of its two functions.
-/
import Derived.Test.YtpceaabbcogioaaGrT
import Derived.Test.YtpceaabbcogioaaCntG
import Derived.Test.YtpceaabbcogioaaLGridOk
namespace Go.Proofs.Ytpceaabbcogioaa
open Go.RowKit
set_option linter.unusedVariables false

theorem gridOk_law (cs : List Value) (d : shGrid.D) (w : World) (hr : Reads shGrid w cs d) :
    Calls Try.prog 3 #[.agg cs.toArray] w fun e w' => e = .returned (.bool true) ∧ Below w.heap.size w w' :=
  gridOk_over cs d (gokB d) w hr (cntG d) (fun w' c G h _ => specGok_ok c d w' h.reads) (fun w' c G h _ => implGok_ok c d w' h.reads)

end Go.Proofs.Ytpceaabbcogioaa
