/-
  The law FnExactDiskOk over the contracts of its two functions.
-/
import Derived.Test.YtpdgjejgjbjamaaDOkE
import Derived.Test.YtpdgjejgjbjamaaLDiskOk
namespace Go.Proofs.Ytpdgjejgjbjamaa
open Go.RowKit
set_option linter.unusedVariables false

theorem diskOk_law (cs : List Value) (d : shDisk.D) (w : World) (hr : Reads shDisk w cs d) :
    Calls Try.prog 4 #[.agg cs.toArray] w fun e w' => e = .returned (.bool true) ∧ Below w.heap.size w w' :=
  diskOk_over cs d (implOkB d) w hr (fun w' c h hs => specOk_ok (implOkB d) c d w' (ok_same d).1 (fun h => by
      cases e : implOkB d
      · rfl
      · exact absurd ((ok_same d).2 e) h) h hs) (fun w' c h hs => implOk_ok c d w' h hs)

end Go.Proofs.Ytpdgjejgjbjamaa
