/-
  Parts and Lines, the model's: the pieces between the signs.
-/
import Derived.Test.YtmikibekioekmaeDoorPcs
import Derived.Test.YtmikibekioekmaeDoorStrS
namespace Go.Proofs.YtmikibekioekmaeDoor
open Go.RowKit
set_option linter.unusedVariables false

theorem take_snocS (s : ByteArray) (k : Nat) (h : k < s.size) : s.data.toList.take (k + 1) = s.data.toList.take k ++ [s[k]] := by
  rw [List.take_succ_eq_append_getElem (by simpa using h)]; rfl

/-- What is known behind k bytes: the pieces that are whole, and the one that is open from f on. -/
def Cut (c : UInt8) (s : ByteArray) (k f : Nat) (outs : List (List UInt8)) : Prop := pcs c (s.data.toList.take k) = outs ++ [(s.data.toList.take k).drop f]

theorem cut_zero (c : UInt8) (s : ByteArray) : Cut c s 0 0 [] := by simp [Cut, pcs]

theorem cut_hit {c : UInt8} {s : ByteArray} {k f : Nat} {outs : List (List UInt8)} (h : Cut c s k f outs) (hk : k < s.size) (hc : s[k] = c) : Cut c s (k + 1) (k + 1) (outs ++ [(s.data.toList.take k).drop f]) := by
  unfold Cut at *
  have e : (s.data.toList.take (k + 1)).drop (k + 1) = [] := List.drop_eq_nil_of_le (by rw [List.length_take]; omega)
  rw [e, take_snocS s k hk, hc, pcs_hit, h]

theorem cut_miss {c : UInt8} {s : ByteArray} {k f : Nat} {outs : List (List UInt8)} (h : Cut c s k f outs) (hk : k < s.size) (hf : f ≤ k) (hc : s[k] ≠ c) : Cut c s (k + 1) f outs := by
  unfold Cut at *
  have e : (s.data.toList.take (k + 1)).drop f = (s.data.toList.take k).drop f ++ [s[k]] := by
    rw [take_snocS s k hk, List.drop_append_of_le_length]
    rw [List.length_take]
    have : s.data.toList.length = s.size := by simp
    omega
  rw [e, take_snocS s k hk]
  exact pcs_miss c s[k] hc _ _ _ h

theorem cut_end {c : UInt8} {s : ByteArray} {f : Nat} {outs : List (List UInt8)} (h : Cut c s s.size f outs) : pcsB c s = outs.map toB ++ [s.extract f s.size] := by
  unfold Cut at h
  have e : s.data.toList.take s.size = s.data.toList := List.take_of_length_le (by simp)
  rw [ext_toB, e]
  rw [e] at h
  rw [pcsB, h]
  simp

/-- The pieces without the last where that one is empty. -/
def linB (c : UInt8) (s : ByteArray) : List ByteArray := if ((pcsB c s).getLastD ByteArray.empty).size = 0 then (pcsB c s).dropLast else pcsB c s

end Go.Proofs.YtmikibekioekmaeDoor
