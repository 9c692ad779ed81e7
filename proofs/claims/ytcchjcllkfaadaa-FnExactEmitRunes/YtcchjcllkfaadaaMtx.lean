/-
  markText: the text that a mark is.
-/
import Derived.Test.YtcchjcllkfaadaaRows
import Derived.Test.YtcchjcllkfaadaaShp
import Derived.WalkKit
import Derived.WalkSpells
import Derived.WalkLawsBesides
import Derived.Laws.BytesArg
import Derived.Deep.QuietTactic
import Derived.BigQuiet
namespace Go.Proofs.Ytcchjcllkfaadaa
open Go.RowKit
set_option linter.unusedVariables false

theorem one_byteS (d : Int) (b : Nat) (W : World) (h : W.cell? ⟨b, 0, none⟩ = some (.int .u8 d)) :
    (convert 23 9 (.slice (some ⟨b, 0, none⟩) 1 1)).run Try.prog W = .ok (.string (strOfNums [d])) W := by
  refine run_convert_bytes_arg (P := Try.prog) W 23 5 Try.underlying23 Try.underlying5 b 0 1 1 [d] rfl ?_ 9 Try.underlying9
  intro i hi
  obtain rfl : i = 0 := by omega
  simpa using h

end Go.Proofs.Ytcchjcllkfaadaa
