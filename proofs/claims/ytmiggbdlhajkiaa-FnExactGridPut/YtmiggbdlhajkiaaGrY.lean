/-
  How much an answer holds.
-/
import Derived.Test.YtmiggbdlhajkiaaCntG
import Derived.Test.YtmiggbdlhajkiaaGrV
namespace Go.Proofs.Ytmiggbdlhajkiaa
open Go.RowKit
set_option linter.unusedVariables false

theorem ans_len' {d N : GrD} (h : gokB d = true → N.2.2.1.length = d.2.2.1.length) : (ansG d N).2.2.1.length ≤ 8000 := by
  cases hg : gokB d with
  | false => rw [ansG_no hg]; exact Nat.zero_le _
  | true =>
    rw [ansG_yes hg, h hg]
    obtain ⟨x0, x1, zs, x3, x4, x5, _⟩ := d
    obtain ⟨W, H, _, _, _, _, _, _, g5, hlen, _⟩ := gok_parts hg
    show zs.length ≤ 8000
    omega

theorem sz_ans' {D : shGrid.D} (h : List.length (α := Int) D.2.2.1 ≤ 8000) : shGrid.sz D ≤ 1048576 := by
  have h3 := sz_Grid D
  have h4 : Sh.sz (.sl .int) D.2.2.1 = List.length (α := Int) D.2.2.1 := sz_ints _
  omega

end Go.Proofs.Ytmiggbdlhajkiaa
