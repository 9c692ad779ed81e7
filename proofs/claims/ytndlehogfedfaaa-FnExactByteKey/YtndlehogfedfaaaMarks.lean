/-
  What the helpers of the exact laws do to slices of bytes, more: eqByteS over two readings of one list says true; markByteS writes 1, 2, 3 .. (as bytes) into a row of the call's own; heldByteS finds them again.
-/
import Derived.Test.YtndlehogfedfaaaBytes
namespace Go.Proofs.Ytndlehogfedfaaa
open Go.RowKit
set_option linter.unusedVariables false

theorem grownBy_trans {a b c : World} {row : Option Nat} (h : a.grownBy b row) (k : b.grownBy c row) : a.grownBy c row :=
  ⟨k.os.trans h.os, k.tape.trans h.tape, k.output.trans h.output, Nat.le_trans h.size k.size, fun i hi hr => (k.block i (Nat.lt_of_lt_of_le hi h.size) hr).trans (h.block i hi hr)⟩

/-- The marks 1 .. k laid over xs. -/
def marked (xs : List Int) (k : Nat) : List Int := (List.range xs.length).map fun i => if i < k then ((i : Int) + 1) % 256 else xs[i]?.getD 0

theorem marked_zero (xs : List Int) : marked xs 0 = xs := by
  apply List.ext_getElem
  · simp [marked]
  · intro i h1 h2
    simp [marked, h2]

theorem marked_set (xs : List Int) (k : Nat) : ((marked xs k).map (Value.int .u8)).set k (.int .u8 (((k : Int) + 1) % 256)) = (marked xs (k + 1)).map (Value.int .u8) := by
  apply List.ext_getElem
  · simp [marked]
  · intro i h1 h2
    simp [marked] at h1 h2
    rw [List.getElem_set]
    by_cases e : k = i
    · subst e; simp [marked]
    · by_cases h : i < k
      · simp [marked, e, h, Nat.lt_succ_of_lt h]
      · have : ¬ i < k + 1 := by omega
        simp [marked, e, h, this]

end Go.Proofs.Ytndlehogfedfaaa
