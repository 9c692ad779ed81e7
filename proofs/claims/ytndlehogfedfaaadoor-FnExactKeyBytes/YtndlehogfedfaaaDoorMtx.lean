/-
  markText: the text that a mark is.
-/
import Derived.Test.YtndlehogfedfaaaDoorRows
import Derived.Test.YtndlehogfedfaaaDoorShp
import Derived.WalkKit
import Derived.WalkSpells
import Derived.WalkLawsBesides
import Derived.Laws.BytesArg
import Derived.Deep.QuietTactic
import Derived.BigQuiet
namespace Go.Proofs.YtndlehogfedfaaaDoor
open Go.RowKit
set_option linter.unusedVariables false

theorem one_byteS (d : Int) (b : Nat) (W : World) (h : W.cell? ⟨b, 0, none⟩ = some (.int .u8 d)) :
    (convert 32 9 (.slice (some ⟨b, 0, none⟩) 1 1)).run Tryd.prog W = .ok (.string (strOfNums [d])) W := by
  refine run_convert_bytes_arg (P := Tryd.prog) W 32 5 Tryd.underlying32 Tryd.underlying5 b 0 1 1 [d] rfl ?_ 9 Tryd.underlying9
  intro i hi
  obtain rfl : i = 0 := by omega
  simpa using h

end Go.Proofs.YtndlehogfedfaaaDoor
