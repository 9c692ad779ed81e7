/-
  Crc32, the model's: the sum of a slice of bytes, bit by bit.
-/
import Derived.Test.YtmikibekioekmaeDoorOpen
import Derived.Test.YtmikibekioekmaeDoorPlain
namespace Go.Proofs.YtmikibekioekmaeDoor
open Go.RowKit
set_option linter.unusedVariables false

def cstep (r : Nat) : Nat := if r % 2 = 1 then r / 2 ^^^ 3988292384 else r / 2
def cits : Nat → Nat → Nat
  | 0, r => r
  | j + 1, r => cstep (cits j r)
def csum (zs : List Int) : Nat → Nat
  | 0 => 4294967295
  | k + 1 => cits 8 (csum zs k ^^^ (zs[k]?.getD 0).toNat)

theorem cstep_lt (r : Nat) (h : r < 4294967296) : cstep r < 4294967296 := by
  unfold cstep
  split
  · have : r / 2 ^^^ 3988292384 < 2 ^ 32 := Nat.xor_lt_two_pow (by omega) (by omega)
    omega
  · omega
theorem cits_lt : ∀ (j r : Nat), r < 4294967296 → cits j r < 4294967296
  | 0, r, h => h
  | j + 1, r, h => cstep_lt _ (cits_lt j r h)
theorem cxor_lt (r c : Nat) (h : r < 4294967296) (hc : c < 256) : r ^^^ c < 4294967296 := by
  have : r ^^^ c < 2 ^ 32 := Nat.xor_lt_two_pow (by omega) (by omega)
  omega
theorem csum_lt (zs : List Int) (hz : ∀ i : Nat, 0 ≤ zs[i]?.getD 0 ∧ zs[i]?.getD 0 ≤ 255) : ∀ k, csum zs k < 4294967296
  | 0 => by simp [csum]
  | k + 1 => cits_lt 8 _ (cxor_lt _ _ (csum_lt zs hz k) (by have := hz k; omega))

theorem cstep_odd (r : Nat) (h : r % 2 = 1) : cstep r = r / 2 ^^^ 3988292384 := by simp [cstep, h]
theorem cstep_even (r : Nat) (h : ¬ r % 2 = 1) : cstep r = r / 2 := by simp [cstep, h]

theorem xor_half (r : Nat) (h : r < 4294967296) : bits .xor .i64 ((r : Int) / 2) 3988292384 = ((r / 2 ^^^ 3988292384 : Nat) : Int) := by
  have e : ((r : Int) / 2) = ((r / 2 : Nat) : Int) := by omega
  rw [e]
  exact i64_xor_nat (r / 2) 3988292384 (by omega) (by omega)

end Go.Proofs.YtmikibekioekmaeDoor
