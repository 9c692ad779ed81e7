/-
  GetNum, the model's and the program's: both read the same number, or say no at the same arguments. For slices of at most 1048576 + 1048576 bytes and any two integers.
-/
import Derived.Test.YtbjmjmammpgbmaaMarks
namespace Go.Proofs.Ytbjmjmammpgbmaa
open Go.RowKit
set_option linter.unusedVariables false

def gnum (zs : List Int) (p : Nat) : Nat → Int
  | 0 => 0
  | k + 1 => gnum zs p k * 256 + zs[p + k]?.getD 0

theorem gnum_bd (zs : List Int) (hz : ∀ i : Nat, 0 ≤ zs[i]?.getD 0 ∧ zs[i]?.getD 0 ≤ 255) (p : Nat) : ∀ k, k ≤ 4 → 0 ≤ gnum zs p k ∧ gnum zs p k ≤ 256 ^ k - 1
  | 0, _ => by simp [gnum]
  | 1, _ => by have := hz (p + 0); simp [gnum] at *; omega
  | 2, _ => by have := hz (p + 0); have := hz (p + 1); simp [gnum] at *; omega
  | 3, _ => by have := hz (p + 0); have := hz (p + 1); have := hz (p + 2); simp [gnum] at *; omega
  | 4, _ => by have := hz (p + 0); have := hz (p + 1); have := hz (p + 2); have := hz (p + 3); simp [gnum] at *; omega
  | k + 5, h => by omega

theorem gnum_lt (zs : List Int) (hz : ∀ i : Nat, 0 ≤ zs[i]?.getD 0 ∧ zs[i]?.getD 0 ≤ 255) (p k : Nat) (h : k < 4) : 0 ≤ gnum zs p k ∧ gnum zs p k ≤ 16777215 := by
  have := gnum_bd zs hz p k (by omega)
  match k, h with
  | 0, _ => omega
  | 1, _ => omega
  | 2, _ => omega
  | 3, _ => omega

/-- The tests of GetNum. -/
def gok (n : Nat) (p s : Int) : Prop := 1 ≤ s ∧ s ≤ 4 ∧ 0 ≤ p ∧ p ≤ (n : Int) - s

set_option maxHeartbeats 400000 in
theorem specGet_no (a : Option Addr) (n cap : Nat) (p s : Int) (w : World) (hn : n ≤ 2097152) (hp : -9223372036854775808 ≤ p ∧ p ≤ 9223372036854775807) (hs : -9223372036854775808 ≤ s ∧ s ≤ 9223372036854775807) (h : ¬ gok n p s) :
    Calls Try.prog 35 #[.slice a n cap, .int .i64 p, .int .i64 s] w fun e w' => e = .returned (.tuple #[.int .i64 0, .bool false]) ∧ w' = w := by
  unfold gok at h
  by_cases h1 : s < 1
  · go_enter Try.func35, Try.ntmps35
    go_wp2
    go_ret2
    exact ⟨rfl, rfl⟩
  by_cases h2 : 4 < s
  · go_enter Try.func35, Try.ntmps35
    go_wp2
    go_ret2
    exact ⟨rfl, rfl⟩
  by_cases h3 : p < 0
  · go_enter Try.func35, Try.ntmps35
    go_wp2
    go_ret2
    exact ⟨rfl, rfl⟩
  have h4 : (n : Int) - s < p := by omega
  clear h
  go_enter Try.func35, Try.ntmps35
  go_wp2
  go_ret2
  exact ⟨rfl, rfl⟩

set_option maxHeartbeats 400000 in
theorem specGet_yes (a : Option Addr) (n cap : Nat) (zs : List Int) (p s : Nat) (w : World) (hl : Hid (zs.length = n)) (hr : Rd w a zs) (hn : n ≤ 2097152) (hs1 : 1 ≤ s) (hs4 : s ≤ 4) (hps : p + s ≤ n) :
    Calls Try.prog 35 #[.slice a n cap, .int .i64 p, .int .i64 s] w fun e w' => e = .returned (.tuple #[.int .i64 (gnum zs p s), .bool true]) ∧ w' = w := by
  have hne : zs ≠ [] := by intro h; have := hl.out; subst h; simp at this; omega
  obtain ⟨b, off, rfl, hb, hc⟩ := hr.2.resolve_left hne
  have hz := hr.1
  clear hr hne
  go_enter Try.func35, Try.ntmps35
  go_wp2
  go_loop [8, 9] (fun m i => ∃ k : Nat, k ≤ s ∧ m = .int .i64 (gnum zs p k) ∧ i = .int .i64 k) (fun _ i => s - (intOf i).toNat)
  case atStart => exact ⟨0, Nat.zero_le _, rfl, rfl⟩
  case round =>
    obtain ⟨k, hk, rfl, rfl⟩ := hrel
    by_cases hlt : k < s
    · have hce : w.cell? ⟨b, off + (p + k), none⟩ = some (.int .u8 (zs[p + k]?.getD 0)) := hc (p + k) (by have := hl.out; omega)
      have hg := gnum_lt zs hz p k (by omega)
      have hzk := hz (p + k)
      clear hc hz
      go_wp2
      go_round
      case rel => exact ⟨k + 1, by omega, rfl, by go_num⟩
      case measure => simp [intOf]; omega
    · have e : k = s := by omega
      subst e
      go_wp2
      go_ret2
      exact ⟨rfl, rfl⟩

end Go.Proofs.Ytbjmjmammpgbmaa
