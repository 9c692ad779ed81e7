/-
  The program's GetNum.
-/
import Derived.Test.YtbjmjmammpgbmaaGet
import Derived.Test.YtbjmjmammpgbmaaPlain
namespace Go.Proofs.Ytbjmjmammpgbmaa
open Go.RowKit
set_option linter.unusedVariables false

set_option maxHeartbeats 400000 in
theorem implGet_no (a : Option Addr) (n cap : Nat) (p s : Int) (w : World) (hn : n ≤ 2097152) (hp : -9223372036854775808 ≤ p ∧ p ≤ 9223372036854775807) (hs : -9223372036854775808 ≤ s ∧ s ≤ 9223372036854775807) (h : ¬ gok n p s) :
    Calls Try.prog 47 #[.slice a n cap, .int .i64 p, .int .i64 s] w fun e w' => e = .returned (.tuple #[.int .i64 0, .bool false]) ∧ w' = w := by
  unfold gok at h
  by_cases h1 : s < 1
  · go_enter Try.func47, Try.ntmps47
    go_wp2
    go_ret2
    exact ⟨rfl, rfl⟩
  by_cases h2 : 4 < s
  · go_enter Try.func47, Try.ntmps47
    go_wp2
    go_ret2
    exact ⟨rfl, rfl⟩
  by_cases h3 : p < 0
  · go_enter Try.func47, Try.ntmps47
    go_wp2
    go_ret2
    exact ⟨rfl, rfl⟩
  have h4 : (n : Int) - s < p := by omega
  clear h
  go_enter Try.func47, Try.ntmps47
  go_wp2
  go_ret2
  exact ⟨rfl, rfl⟩

set_option maxHeartbeats 400000 in
theorem implGet_yes (a : Option Addr) (n cap : Nat) (zs : List Int) (p s : Nat) (w : World) (hl : Hid (zs.length = n)) (hr : Rd w a zs) (hn : n ≤ 2097152) (hs1 : 1 ≤ s) (hs4 : s ≤ 4) (hps : p + s ≤ n) :
    Calls Try.prog 47 #[.slice a n cap, .int .i64 p, .int .i64 s] w fun e w' => e = .returned (.tuple #[.int .i64 (gnum zs p s), .bool true]) ∧ w' = w := by
  have hne : zs ≠ [] := by intro h; have := hl.out; subst h; simp at this; omega
  obtain ⟨b, off, rfl, hb, hc⟩ := hr.2.resolve_left hne
  have hz := hr.1
  clear hr hne
  go_enter Try.func47, Try.ntmps47
  go_wp2
  go_loop [8, 26] (fun m i => ∃ k : Nat, k ≤ s ∧ m = .int .i64 (gnum zs p k) ∧ i = .int .i64 k) (fun _ i => s - (intOf i).toNat)
  case atStart => exact ⟨0, Nat.zero_le _, rfl, rfl⟩
  case round =>
    obtain ⟨k, hk, rfl, rfl⟩ := hrel
    by_cases hlt : k < s
    · have hce : w.cell? ⟨b, off + (p + k), none⟩ = some (.int .u8 (zs[p + k]?.getD 0)) := hc (p + k) (by have := hl.out; omega)
      have hg := gnum_lt zs hz p k (by omega)
      have hzk := hz (p + k)
      clear hc hz
      go_wp2
      go_round
      case rel => exact ⟨k + 1, by omega, by rw [i64_or_byte _ _ hg.1 hg.2 hzk.1 hzk.2]; rfl, by go_num⟩
      case measure => simp [intOf]; omega
    · have e : k = s := by omega
      subst e
      go_wp2
      go_ret2
      exact ⟨rfl, rfl⟩

end Go.Proofs.Ytbjmjmammpgbmaa
