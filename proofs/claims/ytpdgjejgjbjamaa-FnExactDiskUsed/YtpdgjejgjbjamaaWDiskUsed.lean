/-
  The law FnExactDiskUsed over the contracts of its two functions.
-/
import Derived.Test.YtpdgjejgjbjamaaDUsed
import Derived.Test.YtpdgjejgjbjamaaLDiskUsed
namespace Go.Proofs.Ytpdgjejgjbjamaa
open Go.RowKit
set_option linter.unusedVariables false

theorem diskUsed_law (cs : List Value) (d : shDisk.D) (w : World) (hr : Reads shDisk w cs d) :
    Calls Try.prog 5 #[.agg cs.toArray] w fun e w' => e = .returned (.bool true) ∧ Below w.heap.size w w' :=
  diskUsed_over cs d (used d) w hr (fun w' c h hs => specUsed_ok c d w' h hs) (fun w' c h hs => implUsed_ok c d w' h hs)

end Go.Proofs.Ytpdgjejgjbjamaa
