/-
  The law FnExactRuneBegin over the contracts of its two functions.
-/
import Derived.Test.YtojalheohpkdoaaDoorLRuneBegin
import Derived.Test.YtojalheohpkdoaaDoorRbgS
import Derived.Test.YtojalheohpkdoaaDoorRbgI
import Derived.Test.YtojalheohpkdoaaDoorTabs
namespace Go.Proofs.YtojalheohpkdoaaDoor
open Go.RowKit
set_option linter.unusedVariables false

theorem cntU8 (d : List Int) (h : d.length ≤ 1048576) : Sh.cnt (.sl .u8) d ≤ 1000000000 := by
  rw [cnt_bytes]; omega

theorem runeBegin_law (v : Value) (d : List Int) (w : World) (hT : Tabs w) (hr : Reads (.sl .u8) w [v] d) :
    Calls Tryd.prog 5 #[v] w fun e w' => e = .returned (.bool true) ∧ Below w.heap.size w w' := by
  refine runeBegin_over v d (rbgB d) w hr (cntU8 d) (fun w' c G h hl hb => ?_) (fun w' c G h hl hb => ?_)
  · obtain ⟨a, cap, e, _⟩ := h.reads
    obtain ⟨rfl, _⟩ := List.cons.inj e
    obtain ⟨h1, h2, h3, h4⟩ := reads_bytes h.reads
    exact specRbg_any a _ cap d w' h1 h2 (by omega) h3 h4
  · obtain ⟨a, cap, e, _⟩ := h.reads
    obtain ⟨rfl, _⟩ := List.cons.inj e
    obtain ⟨h1, h2, h3, h4⟩ := reads_bytes h.reads
    exact implRbg_any a _ cap d w' (hT.later hb) h1 h2 (by omega) h3 h4

end Go.Proofs.YtojalheohpkdoaaDoor
