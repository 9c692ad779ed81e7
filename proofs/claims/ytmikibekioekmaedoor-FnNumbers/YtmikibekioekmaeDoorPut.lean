/-
  PutNum, the model's: what it hands back. For a slice of at most 2097152 bytes whose address is known, and any two integers.
-/
import Derived.Test.YtmikibekioekmaeDoorOpen
import Derived.Maps.AppendAt
namespace Go.Proofs.YtmikibekioekmaeDoor
open Go.RowKit
set_option linter.unusedVariables false

def pw : Nat → Int
  | 0 => 1
  | k + 1 => pw k * 256

theorem pw_pos : ∀ k, 1 ≤ pw k
  | 0 => by simp [pw]
  | k + 1 => by have := pw_pos k; simp [pw]; omega

theorem pw_le (k : Nat) (h : k ≤ 3) : pw k ≤ 16777216 := by
  match k, h with
  | 0, _ => simp [pw]
  | 1, _ => simp [pw]
  | 2, _ => simp [pw]
  | 3, _ => simp [pw]

def pdig (N : Int) (S k : Nat) : List Int := (List.range k).map fun i => N / pw (S - 1 - i) % 256

theorem pdig_succ (N : Int) (S k : Nat) : pdig N S (k + 1) = pdig N S k ++ [N / pw (S - 1 - k) % 256] := by
  simp [pdig, List.range_succ]

theorem pdig_len (N : Int) (S k : Nat) : (pdig N S k).length = k := by simp [pdig]

theorem put_bytes (zs : List Int) (hz : ∀ i : Nat, 0 ≤ zs[i]?.getD 0 ∧ zs[i]?.getD 0 ≤ 255) (N : Int) (S k : Nat) : ∀ i : Nat, 0 ≤ (zs ++ pdig N S k)[i]?.getD 0 ∧ (zs ++ pdig N S k)[i]?.getD 0 ≤ 255 := by
  intro i
  rw [List.getElem?_append]
  split
  · exact hz i
  · simp only [pdig, List.getElem?_map]
    cases (List.range k)[i - zs.length]? with
    | none => simp
    | some j => simp; omega

/-- The tests of PutNum. -/
def pok (n : Nat) (N s : Int) : Prop := 1 ≤ s ∧ s ≤ 4 ∧ 0 ≤ N ∧ N < pw s.toNat ∧ (n : Int) ≤ 65536 - s

end Go.Proofs.YtmikibekioekmaeDoor
