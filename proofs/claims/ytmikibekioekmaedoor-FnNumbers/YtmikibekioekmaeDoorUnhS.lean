/-
  Unhex, the model's.
-/
import Derived.Test.YtmikibekioekmaeDoorUnh
namespace Go.Proofs.YtmikibekioekmaeDoor
open Go.RowKit
set_option linter.unusedVariables false

/-- The byte at k, as a number; 0 behind the end. -/
def chr (s : ByteArray) (k : Nat) : Int := if h : k < s.size then (s[k].toNat : Int) else 0
theorem chr_at (s : ByteArray) (k : Nat) (h : k < s.size) : chr s k = (s[k].toNat : Int) := by simp [chr, h]
theorem chr_bd (s : ByteArray) (k : Nat) : 0 ≤ chr s k ∧ chr s k ≤ 255 := by
  unfold chr
  split
  · rename_i h
    have := s[k].toNat_lt
    omega
  · omega

/-- The bytes that the first 2k digits make. -/
def uns (s : ByteArray) : Nat → List Int
  | 0 => []
  | k + 1 => uns s k ++ [16 * (dg (chr s (2 * k)) : Int) + dg (chr s (2 * k + 1))]
theorem uns_len (s : ByteArray) : ∀ k, (uns s k).length = k
  | 0 => rfl
  | k + 1 => by simp [uns, uns_len s k]

theorem own_drewN {w : World} {base : Nat} {e : TypeId} {size : Nat} {v : Value} {n : Nat} {xs : List Value} (h : w.ownsRow base e size v n xs) (q : Nat) : (w.drewN q).ownsRow base e size v n xs := h

end Go.Proofs.YtmikibekioekmaeDoor
