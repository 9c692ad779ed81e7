/-
  The cells of a great struct: how many there are, and that each is one cell. By program (opvgen.py).
-/
import Derived.Laws.Rows
import Derived.Laws.Tables
import Derived.Deep.WholeRow
import Derived.Test.YtdmgknmlgipnpaaTyTrial
namespace Go.Proofs.Ytdmgknmlgipnpaa
open Go.RowKit
set_option linter.unusedVariables false

theorem ones_Trial {w : World} {cs : List Value} {d : shTrial.D} (h : Reads shTrial w cs d) : cs.toArray.size = 21 ∧ cs.toArray.all (·.oneCell') = true := by
  obtain ⟨a6, n6, c6, a7, n7, c7, a8, n8, c8, a11, n11, c11, a16, n16, c16, a17, n17, c17, a18, n18, c18, a19, n19, c19, a20, n20, c20, rfl, _⟩ := open_Trial h
  exact ⟨rfl, by simp [Value.oneCell']⟩

end Go.Proofs.Ytdmgknmlgipnpaa
