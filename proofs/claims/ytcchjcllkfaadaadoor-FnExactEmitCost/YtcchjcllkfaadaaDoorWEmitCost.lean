/-
  The law FnExactEmitCost over the contracts of its two functions.
-/
import Derived.Test.YtcchjcllkfaadaaDoorLEmitCost
import Derived.Test.YtcchjcllkfaadaaDoorEmC
import Derived.Test.YtcchjcllkfaadaaDoorEmD
namespace Go.Proofs.YtcchjcllkfaadaaDoor
open Go.RowKit
set_option linter.unusedVariables false

theorem emitCost_law (v : Value) (d : List Int) (w : World) (hr : Reads (.sl .u8) w [v] d) :
    Calls Tryd.prog 4 #[v] w fun e w' => e = .returned (.bool true) ∧ Below w.heap.size w w' := by
  refine emitCost_over v d (costZ d) w hr (fun h => by rw [cnt_bytes]; omega) (fun w' c G h hl hb => ?_) (fun w' c G h hl hb => ?_)
  · obtain ⟨a, cap, e, _⟩ := h.reads
    obtain ⟨rfl, _⟩ := List.cons.inj e
    obtain ⟨h1, h2, h3, h4⟩ := reads_bytes h.reads
    refine (specCost_any a _ cap d w' h1 h2 (by omega)).mono ?_
    rintro e w1 ⟨rfl, q, rfl⟩
    exact ⟨rfl, below_drewN (Below.refl _ _) q⟩
  · obtain ⟨a, cap, e, _⟩ := h.reads
    obtain ⟨rfl, _⟩ := List.cons.inj e
    obtain ⟨h1, h2, h3, h4⟩ := reads_bytes h.reads
    exact implCost_any a _ cap d w' h1 h2 (by omega) h3 h4

end Go.Proofs.YtcchjcllkfaadaaDoor
