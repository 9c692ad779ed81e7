/-
  The walk of the law FnExactNameOk.
-/
import Derived.Test.YtpdgjejgjbjamaaNm
namespace Go.Proofs.Ytpdgjejgjbjamaa
open Go.RowKit
set_option linter.unusedVariables false

theorem nameOk_law (s : ByteArray) (w : World) (hs : s.size ≤ maxLen) :
    Calls Try.prog 3 #[.string s] w fun e w' => e = .returned (.bool true) ∧ Below w.heap.size w w' := by
  obtain ⟨b, hb⟩ : ∃ b, b = @decide (isName s) (Classical.propDecidable _) := ⟨_, rfl⟩
  have qS : Hid (Calls Try.prog 8 #[.string s] w fun e w' => e = .returned (.bool b) ∧ w' = w) := by rw [hb]; exact specName_any s w hs
  have qI : Hid (Calls Try.prog 9 #[.string s] w fun e w' => e = .returned (.bool b) ∧ w' = w) := by rw [hb]; exact implName_any s w hs
  unfold maxLen at hs
  have hne : (b != b) = false := by cases b <;> rfl
  clear hb
  by_cases h : (1048576 : Int) < (s.size : Int)
  · go_enter Try.func3, Try.ntmps3
    go_wp2
    go_ret
    exact ⟨rfl, Below.refl _ _⟩
  · go_enter Try.func3, Try.ntmps3
    go_wp2_with fail
    refine qS.out.mono ?_
    rintro e w1 ⟨rfl, rfl⟩
    go_wp2_with fail
    refine qI.out.mono ?_
    rintro e w1 ⟨rfl, rfl⟩
    go_wp2
    go_ret
    exact ⟨rfl, Below.refl _ _⟩

end Go.Proofs.Ytpdgjejgjbjamaa
