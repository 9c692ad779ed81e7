/-
  TextNum, the model's: a numeral of a number up to 4294967295, as NumText writes it, gives that number; every other text gives no.
-/
import Derived.Test.YtmikibekioekmaeDoorTxt
import Derived.Test.YtmikibekioekmaeDoorNum
namespace Go.Proofs.YtmikibekioekmaeDoor
open Go.RowKit
set_option linter.unusedVariables false

/-- s is the numeral of N. -/
def isNum (s : ByteArray) (N : Nat) : Prop := N ≤ 4294967295 ∧ s = ⟨(Lib.decDigits N).toArray⟩

theorem take_snoc (s : ByteArray) (k : Nat) (h : k < s.size) : s.data.toList.take (k + 1) = s.data.toList.take k ++ [s[k]] := by
  rw [List.take_succ_eq_append_getElem (by simpa using h)]; rfl

theorem neq_of {a b : ByteArray} (h : ¬ a = b) : (a.toList == b.toList) = false := by
  rw [beq_eq_false_iff_ne]
  intro e
  apply h
  rw [ByteArray.toList_eq, ByteArray.toList_eq] at e
  exact ByteArray.ext (Array.toList_inj.1 e)

theorem full_of {s : ByteArray} (h : 1 ≤ s.size) : s.toList.isEmpty = false := by
  rw [ByteArray.toList_eq]
  cases hs : s.data.toList with
  | nil => have : s.data.toList.length = s.size := by simp
           rw [hs] at this; simp at this; omega
  | cons => rfl

end Go.Proofs.YtmikibekioekmaeDoor
