/-
  The law FnExactOpOk over the contracts of its two functions.
-/
import Derived.Test.YtpdgjejgjbjamabOpO
import Derived.Test.YtpdgjejgjbjamabLOpOk
namespace Go.Proofs.Ytpdgjejgjbjamab
open Go.RowKit
set_option linter.unusedVariables false

theorem opOk_law (cs : List Value) (d : shOp.D) (w : World) (hr : Reads shOp w cs d) :
    Calls Try.prog 3 #[.agg cs.toArray] w fun e w' => e = .returned (.bool true) ∧ Below w.heap.size w w' :=
  opOk_over cs d (opB d.1 d.2.1 d.2.2.1 d.2.2.2.1 (List.length d.2.2.2.2.1)) w hr
    (fun w' c h hs => by
      obtain ⟨a4, n4, c4, rfl, l1, l2, r4⟩ := open_Op h
      rw [(reads_len r4).1]
      exact specOp_any _ _ _ _ a4 n4 c4 w' l1 l2)
    (fun w' c h hs => by
      obtain ⟨a4, n4, c4, rfl, l1, l2, r4⟩ := open_Op h
      rw [(reads_len r4).1]
      exact implOp_any _ _ _ _ a4 n4 c4 w' l1 l2)

end Go.Proofs.Ytpdgjejgjbjamab
