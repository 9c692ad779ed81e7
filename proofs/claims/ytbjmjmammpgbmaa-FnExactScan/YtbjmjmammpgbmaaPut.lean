/-
  PutNum, the model's: what it hands back. For a slice of at most 2097152 bytes whose address is known, and any two integers.
-/
import Derived.Test.YtbjmjmammpgbmaaOpen
import Derived.Maps.AppendAt
namespace Go.Proofs.Ytbjmjmammpgbmaa
open Go.RowKit
set_option linter.unusedVariables false

def pw : Nat → Int
  | 0 => 1
  | k + 1 => pw k * 256

theorem pw_pos : ∀ k, 1 ≤ pw k
  | 0 => by simp [pw]
  | k + 1 => by have := pw_pos k; simp [pw]; omega

theorem pw_le (k : Nat) (h : k ≤ 3) : pw k ≤ 16777216 := by
  match k, h with
  | 0, _ => simp [pw]
  | 1, _ => simp [pw]
  | 2, _ => simp [pw]
  | 3, _ => simp [pw]

def pdig (N : Int) (S k : Nat) : List Int := (List.range k).map fun i => N / pw (S - 1 - i) % 256

theorem pdig_succ (N : Int) (S k : Nat) : pdig N S (k + 1) = pdig N S k ++ [N / pw (S - 1 - k) % 256] := by
  simp [pdig, List.range_succ]

theorem pdig_len (N : Int) (S k : Nat) : (pdig N S k).length = k := by simp [pdig]

theorem put_bytes (zs : List Int) (hz : ∀ i : Nat, 0 ≤ zs[i]?.getD 0 ∧ zs[i]?.getD 0 ≤ 255) (N : Int) (S k : Nat) : ∀ i : Nat, 0 ≤ (zs ++ pdig N S k)[i]?.getD 0 ∧ (zs ++ pdig N S k)[i]?.getD 0 ≤ 255 := by
  intro i
  rw [List.getElem?_append]
  split
  · exact hz i
  · simp only [pdig, List.getElem?_map]
    cases (List.range k)[i - zs.length]? with
    | none => simp
    | some j => simp; omega

set_option maxHeartbeats 400000 in
theorem pow_any (S : Nat) (w : World) (h : S ≤ 4) :
    Calls Try.prog 53 #[.int .i64 S] w fun e w' => e = .returned (.int .i64 (pw S)) ∧ w' = w := by
  go_enter Try.func53, Try.ntmps53
  go_wp2
  go_loop [3, 4] (fun p i => ∃ k : Nat, k ≤ S ∧ p = .int .i64 (pw k) ∧ i = .int .i64 k) (fun _ i => S - (intOf i).toNat)
  case atStart => exact ⟨0, Nat.zero_le _, rfl, rfl⟩
  case round =>
    obtain ⟨k, hk, rfl, rfl⟩ := hrel
    by_cases hlt : k < S
    · have h1 := pw_pos k
      have h2 := pw_le k (by omega)
      go_wp2
      go_round
      case rel => exact ⟨k + 1, by omega, rfl, by go_num⟩
      case measure => simp [intOf]; omega
    · have e : k = S := by omega
      subst e
      go_wp2
      go_ret
      exact ⟨rfl, rfl⟩

/-- The tests of PutNum. -/
def pok (n : Nat) (N s : Int) : Prop := 1 ≤ s ∧ s ≤ 4 ∧ 0 ≤ N ∧ N < pw s.toNat ∧ (n : Int) ≤ 65536 - s

set_option maxHeartbeats 1000000 in
theorem specPut_no (a : Option Addr) (n cap : Nat) (N s : Int) (w : World) (hn : n ≤ 2097152) (hN : -9223372036854775808 ≤ N ∧ N ≤ 9223372036854775807) (hs : -9223372036854775808 ≤ s ∧ s ≤ 9223372036854775807) (h : ¬ pok n N s) :
    Calls Try.prog 49 #[.slice a n cap, .int .i64 N, .int .i64 s] w fun e w' => e = .returned (.tuple #[.slice none 0 0, .bool false]) ∧ w' = w := by
  unfold pok at h
  by_cases h1 : s < 1
  · clear h
    go_enter Try.func49, Try.ntmps49
    go_wp2
    go_ret2
    exact ⟨rfl, rfl⟩
  by_cases h2 : 4 < s
  · clear h
    go_enter Try.func49, Try.ntmps49
    go_wp2
    go_ret2
    exact ⟨rfl, rfl⟩
  by_cases h3 : N < 0
  · clear h
    go_enter Try.func49, Try.ntmps49
    go_wp2
    go_ret2
    exact ⟨rfl, rfl⟩
  obtain ⟨S, rfl⟩ := Int.eq_ofNat_of_zero_le (show 0 ≤ s by omega)
  have e : ((S : Int)).toNat = S := by omega
  rw [e] at h
  by_cases h4 : pw S ≤ N
  · clear h
    go_enter Try.func49, Try.ntmps49
    go_wp2_with fail
    refine (pow_any S _ (by omega)).mono ?_
    rintro e w' ⟨rfl, rfl⟩
    go_wp2
    go_ret2
    exact ⟨rfl, rfl⟩
  have h5 : (65536 : Int) - S < n := by omega
  have h4' : N < pw S := by omega
  clear h
  go_enter Try.func49, Try.ntmps49
  go_wp2_with fail
  refine (pow_any S _ (by omega)).mono ?_
  rintro e w' ⟨rfl, rfl⟩
  go_wp2
  go_ret2
  exact ⟨rfl, rfl⟩

end Go.Proofs.Ytbjmjmammpgbmaa
