/-
  A row of bytes of the call's own, turned into a string.
-/
import Derived.Test.YtndlehogfedfaaaDoorKeep
import Derived.Laws.BytesArg
namespace Go.Proofs.YtndlehogfedfaaaDoor
open Go.RowKit
set_option linter.unusedVariables false

theorem own_conv {w : World} {base g n cap : Nat} {zs : List Int} (hl : zs.length = n) (h : w.ownsRow base 5 1 (.slice (some ⟨g, 0, none⟩) n cap) n (zs.map (Value.int .u8))) :
    (convert 32 9 (.slice (some ⟨g, 0, none⟩) n cap)).run Tryd.prog w = .ok (.string (strOfNums zs)) w := by
  refine run_convert_bytes_arg (P := Tryd.prog) w 32 5 Tryd.underlying32 Tryd.underlying5 g 0 n cap zs hl ?_ 9 Tryd.underlying9
  intro i hi
  rw [Nat.zero_add, h.cellAt i (by omega)]
  have : i < zs.length := by omega
  simp [this]

end Go.Proofs.YtndlehogfedfaaaDoor
