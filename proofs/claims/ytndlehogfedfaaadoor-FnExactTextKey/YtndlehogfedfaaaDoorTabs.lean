/-
  The two tables of unicode/utf8: what the row lays of them, and that they stay.
-/
import Derived.Test.YtndlehogfedfaaaDoorOpen
import Derived.Test.YtndlehogfedfaaaDoorRows
import Derived.Lib.LaidU8T
import Derived.PinnedBridge
namespace Go.Proofs.YtndlehogfedfaaaDoor
open Go.RowKit
set_option linter.unusedVariables false

/-- The two tables of unicode/utf8 hold what their text lays. -/
def Tabs (w : World) : Prop := Lib.Utf8Tabs 1 2 w

theorem Tabs.later {w w' : World} (h : Tabs w) (hb : Below w.heap.size w w') : Tabs w' := by
  refine ⟨fun c hc => ?_, fun i hi => ⟨?_, ?_⟩⟩
  · have h1 := h.1 c hc
    exact (hb.cell (p := ⟨_, c, none⟩) (World.block_lt_of_cell? w _ h1)).trans h1
  · have h1 := (h.2 i hi).1
    exact (hb.cell (p := ⟨_, 2 * i, none⟩) (World.block_lt_of_cell? w _ h1)).trans h1
  · have h1 := (h.2 i hi).2
    exact (hb.cell (p := ⟨_, 2 * i + 1, none⟩) (World.block_lt_of_cell? w _ h1)).trans h1

/-- The numbers of the library's text at this program. -/
def renU : Go.Shelf.Ren := { f := fun x => x, t := fun i => if i = 5 then 5 else if i = 119 then 61 else if i = 138 then 63 else 64, g := fun i => if i = 3 then 1 else 2 }
theorem u8t : U8Types Tryd.prog renU := { t5 := by kernel_rfl, t119 := by kernel_rfl, t138 := by kernel_rfl, t139 := by kernel_rfl }
theorem u8x : U8Extra Tryd.prog renU := { n3 := by kernel_rfl, n4 := by kernel_rfl, y3 := by kernel_rfl, y4 := by kernel_rfl, c5 := by kernel_rfl, c119 := by kernel_rfl, c138 := by kernel_rfl }

theorem accept_eq : Rows.laid_unicode_utf8_acceptRanges = Lib.acceptData := by kernel_rfl
theorem first_eq : Rows.laid_unicode_utf8_first = Lib.firstData := by
  rw [← Pinned.utf8First_eq]
  kernel_rfl

theorem tabs_of {l : List (String × DataW Unit)} {W : World} (g : laidMet Tryd.prog l W) (h1 : ("unicode/utf8.first", Rows.laid_unicode_utf8_first) ∈ l) (h2 : ("unicode/utf8.acceptRanges", Rows.laid_unicode_utf8_acceptRanges) ∈ l) : Tabs W := by
  have r1 := Lib.laidMet.reads g h1
  have r2 := Lib.laidMet.reads g h2
  rw [first_eq] at r1
  rw [accept_eq] at r2
  exact utf8Tabs_of_readsT u8t u8x r1 r2

end Go.Proofs.YtndlehogfedfaaaDoor
