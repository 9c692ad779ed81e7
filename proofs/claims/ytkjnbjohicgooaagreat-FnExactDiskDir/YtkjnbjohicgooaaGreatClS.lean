/-
  strings.Clone of the program.
-/
import Derived.Test.YtkjnbjohicgooaaGreatShelf
import Derived.Test.YtkjnbjohicgooaaGreatKeep
namespace Go.Proofs.YtkjnbjohicgooaaGreat
open Go.RowKit
set_option linter.unusedVariables false
set_option maxRecDepth 100000

set_option maxHeartbeats 400000 in
theorem cloneS_any (s : ByteArray) (w : World) (h : s.size ≤ 1048576) :
    Calls Tryz.prog 95 #[.string s] w fun e w' => e = .returned (.string s) ∧ Below w.heap.size w w' := by
  go_enter Tryz.func95, Tryz.ntmps95
  go_wp2_with fail
  refine (Tryz.stringslite_Clone s _ (by omega)).mono ?_
  rintro e w' ⟨rfl, hb⟩
  go_wp2
  go_ret
  exact ⟨rfl, hb⟩

end Go.Proofs.YtkjnbjohicgooaaGreat
