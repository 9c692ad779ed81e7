/-
  RunesOf of the model: the two ways it ends.
-/
import Derived.Test.YtndlehogfedfaaaDoorRofI
namespace Go.Proofs.YtndlehogfedfaaaDoor
open Go.RowKit
set_option linter.unusedVariables false

theorem specRof_nil (s : ByteArray) (w : World) (hn : s.size ≤ 1048576) (h : ¬ rofOk s) :
    Calls Tryd.prog 22 #[.string s] w fun e w' => e = .returned (.tuple #[.slice none 0 0, .bool false]) ∧ Below w.heap.size w w' := by
  by_cases h1 : s.size ≤ 65536
  · refine (specRof_in s w h1).mono ?_
    rintro e w' ⟨hb, ⟨_, rfl⟩ | ⟨hv, _⟩⟩
    · exact ⟨rfl, hb⟩
    · exact absurd ⟨h1, hv⟩ h
  · have hlt : (65536 : Int) < (s.size : Int) := by omega
    go_enter Tryd.func22, Tryd.ntmps22
    go_wp2
    go_ret2
    exact ⟨rfl, Below.refl _ _⟩

theorem specRof_yes (s : ByteArray) (w : World) (h : rofOk s) :
    Calls Tryd.prog 22 #[.string s] w fun e w' => ∃ g c, e = .returned (.tuple #[.slice (some ⟨g, 0, none⟩) (runes s).length c, .bool true]) ∧
      w'.ownsRow w.heap.size 3 1 (.slice (some ⟨g, 0, none⟩) (runes s).length c) (runes s).length ((runes s).map (Value.int .i64)) ∧ Below w.heap.size w w' := by
  refine (specRof_in s w h.1).mono ?_
  rintro e w' ⟨hb, ⟨hv, _⟩ | ⟨_, g, c, rfl, ho⟩⟩
  · rw [h.2] at hv; cases hv
  · exact ⟨g, c, rfl, ho, hb⟩

end Go.Proofs.YtndlehogfedfaaaDoor
