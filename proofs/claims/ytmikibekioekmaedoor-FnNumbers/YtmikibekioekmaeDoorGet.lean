/-
  GetNum, the model's and the program's: both read the same number, or say no at the same arguments. For slices of at most 1048576 + 1048576 bytes and any two integers.
-/
import Derived.Test.YtmikibekioekmaeDoorMarks
namespace Go.Proofs.YtmikibekioekmaeDoor
open Go.RowKit
set_option linter.unusedVariables false

def gnum (zs : List Int) (p : Nat) : Nat → Int
  | 0 => 0
  | k + 1 => gnum zs p k * 256 + zs[p + k]?.getD 0

theorem gnum_bd (zs : List Int) (hz : ∀ i : Nat, 0 ≤ zs[i]?.getD 0 ∧ zs[i]?.getD 0 ≤ 255) (p : Nat) : ∀ k, k ≤ 4 → 0 ≤ gnum zs p k ∧ gnum zs p k ≤ 256 ^ k - 1
  | 0, _ => by simp [gnum]
  | 1, _ => by have := hz (p + 0); simp [gnum] at *; omega
  | 2, _ => by have := hz (p + 0); have := hz (p + 1); simp [gnum] at *; omega
  | 3, _ => by have := hz (p + 0); have := hz (p + 1); have := hz (p + 2); simp [gnum] at *; omega
  | 4, _ => by have := hz (p + 0); have := hz (p + 1); have := hz (p + 2); have := hz (p + 3); simp [gnum] at *; omega
  | k + 5, h => by omega

theorem gnum_lt (zs : List Int) (hz : ∀ i : Nat, 0 ≤ zs[i]?.getD 0 ∧ zs[i]?.getD 0 ≤ 255) (p k : Nat) (h : k < 4) : 0 ≤ gnum zs p k ∧ gnum zs p k ≤ 16777215 := by
  have := gnum_bd zs hz p k (by omega)
  match k, h with
  | 0, _ => omega
  | 1, _ => omega
  | 2, _ => omega
  | 3, _ => omega

/-- The tests of GetNum. -/
def gok (n : Nat) (p s : Int) : Prop := 1 ≤ s ∧ s ≤ 4 ∧ 0 ≤ p ∧ p ≤ (n : Int) - s

end Go.Proofs.YtmikibekioekmaeDoor
