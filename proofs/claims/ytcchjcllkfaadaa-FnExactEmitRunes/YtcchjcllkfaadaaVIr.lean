/-
  A slice of ints that came in from outside, in the words of shapes.
-/
import Derived.Test.YtcchjcllkfaadaaVI
import Derived.Test.YtcchjcllkfaadaaPlain
namespace Go.Proofs.Ytcchjcllkfaadaa
open Go.RowKit
set_option linter.unusedVariables false

/-- A slice of ints that came in. -/
theorem reads_rowI {w : World} {a : Option Addr} {len cap : Nat} {zs : List Int}
    (h : (a = none ∧ len = 0 ∧ cap = 0 ∧ zs = []) ∨
      ∃ x, a = some x ∧ len ≤ cap ∧ cap ≤ maxLen ∧ zs.length = cap ∧ (∀ i, i < zs.length → w.cell? (x.add i) = some (.int .i64 (zs.getD i 0))) ∧ ∀ n ∈ zs, (Lit.int .i64 n).wf = true) :
    Reads (.sl .int) w [.slice a len cap] (zs.take len) ∧ ∀ i : Nat, -9223372036854775808 ≤ (zs.take len)[i]?.getD 0 ∧ (zs.take len)[i]?.getD 0 ≤ 9223372036854775807 := by
  have h1 := rdI_of h
  rcases h with ⟨_, rfl, rfl, h4⟩ | ⟨x, _, h2, h3, _, _, hw⟩
  · refine ⟨reads_mkI h1.1 h1.2.1 (Nat.le_refl _) (Nat.zero_le _), fun i => ?_⟩
    rw [h4]; simp
  · refine ⟨reads_mkI h1.1 h1.2.1 h2 h3, fun i => ?_⟩
    cases e : (zs.take len)[i]? with
    | none => simp
    | some y =>
      have h9 := wf64 (hw y (List.mem_of_mem_take (List.mem_of_getElem? e)))
      simpa using h9

end Go.Proofs.Ytcchjcllkfaadaa
