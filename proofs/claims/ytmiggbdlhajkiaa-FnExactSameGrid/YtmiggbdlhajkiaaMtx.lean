/-
  markText: the text that a mark is.
-/
import Derived.Test.YtmiggbdlhajkiaaRows
import Derived.Test.YtmiggbdlhajkiaaShp
import Derived.WalkKit
import Derived.WalkSpells
import Derived.WalkLawsBesides
import Derived.Laws.BytesArg
import Derived.Deep.QuietTactic
import Derived.BigQuiet
namespace Go.Proofs.Ytmiggbdlhajkiaa
open Go.RowKit
set_option linter.unusedVariables false


end Go.Proofs.Ytmiggbdlhajkiaa
