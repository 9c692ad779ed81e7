/-
  The law FnExactKeyBytes: KeyBytes of both sides is one.
-/
import Derived.Test.YtndlehogfedfaaaDoorTyKey
import Derived.Test.YtndlehogfedfaaaDoorLKeyBytes
import Derived.Test.YtndlehogfedfaaaDoorKbtI
import Derived.Test.YtndlehogfedfaaaDoorKbtS
namespace Go.Proofs.YtndlehogfedfaaaDoor
open Go.RowKit
set_option linter.unusedVariables false

theorem keyBytes_law (cs : List Value) (d : shKey.D) (w : World) (hN : Nams w) (hr : Reads shKey w cs d) :
    Calls Tryd.prog 5 #[.agg cs.toArray] w fun e w' => e = .returned (.bool true) ∧ Below w.heap.size w w' := by
  obtain rfl := open_Key hr
  have hl := kby_len d.1 d.2.1
  exact keyBytes_over d.1 d.2.1 (kby d.1 d.2.1) w (by omega) (by rw [cnt_bytes]; omega)
    (fun w' hb => (specKb_any d.1 d.2.1 w').mono fun e w'' ⟨o, F, he, ho, hnd, hbb⟩ => ⟨o, he, ho.reads, hbb⟩)
    (fun w' hb => implKb_any d.1 d.2.1 w' (hN.later hb))

end Go.Proofs.YtndlehogfedfaaaDoor
