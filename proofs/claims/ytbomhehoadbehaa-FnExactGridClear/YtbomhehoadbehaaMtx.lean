/-
  markText: the text that a mark is.
-/
import Derived.Test.YtbomhehoadbehaaRows
import Derived.Test.YtbomhehoadbehaaShp
import Derived.WalkKit
import Derived.WalkSpells
import Derived.WalkLawsBesides
import Derived.Laws.BytesArg
import Derived.Deep.QuietTactic
import Derived.BigQuiet
namespace Go.Proofs.Ytbomhehoadbehaa
open Go.RowKit
set_option linter.unusedVariables false


end Go.Proofs.Ytbomhehoadbehaa
