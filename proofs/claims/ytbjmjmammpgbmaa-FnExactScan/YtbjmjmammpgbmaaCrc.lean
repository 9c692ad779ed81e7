/-
  Crc32, the model's: the sum of a slice of bytes, bit by bit.
-/
import Derived.Test.YtbjmjmammpgbmaaOpen
import Derived.Test.YtbjmjmammpgbmaaPlain
namespace Go.Proofs.Ytbjmjmammpgbmaa
open Go.RowKit
set_option linter.unusedVariables false

def cstep (r : Nat) : Nat := if r % 2 = 1 then r / 2 ^^^ 3988292384 else r / 2
def cits : Nat → Nat → Nat
  | 0, r => r
  | j + 1, r => cstep (cits j r)
def csum (zs : List Int) : Nat → Nat
  | 0 => 4294967295
  | k + 1 => cits 8 (csum zs k ^^^ (zs[k]?.getD 0).toNat)

theorem cstep_lt (r : Nat) (h : r < 4294967296) : cstep r < 4294967296 := by
  unfold cstep
  split
  · have : r / 2 ^^^ 3988292384 < 2 ^ 32 := Nat.xor_lt_two_pow (by omega) (by omega)
    omega
  · omega
theorem cits_lt : ∀ (j r : Nat), r < 4294967296 → cits j r < 4294967296
  | 0, r, h => h
  | j + 1, r, h => cstep_lt _ (cits_lt j r h)
theorem cxor_lt (r c : Nat) (h : r < 4294967296) (hc : c < 256) : r ^^^ c < 4294967296 := by
  have : r ^^^ c < 2 ^ 32 := Nat.xor_lt_two_pow (by omega) (by omega)
  omega
theorem csum_lt (zs : List Int) (hz : ∀ i : Nat, 0 ≤ zs[i]?.getD 0 ∧ zs[i]?.getD 0 ≤ 255) : ∀ k, csum zs k < 4294967296
  | 0 => by simp [csum]
  | k + 1 => cits_lt 8 _ (cxor_lt _ _ (csum_lt zs hz k) (by have := hz k; omega))

theorem cstep_odd (r : Nat) (h : r % 2 = 1) : cstep r = r / 2 ^^^ 3988292384 := by simp [cstep, h]
theorem cstep_even (r : Nat) (h : ¬ r % 2 = 1) : cstep r = r / 2 := by simp [cstep, h]

theorem xor_half (r : Nat) (h : r < 4294967296) : bits .xor .i64 ((r : Int) / 2) 3988292384 = ((r / 2 ^^^ 3988292384 : Nat) : Int) := by
  have e : ((r : Int) / 2) = ((r / 2 : Nat) : Int) := by omega
  rw [e]
  exact i64_xor_nat (r / 2) 3988292384 (by omega) (by omega)

set_option maxHeartbeats 1000000 in
theorem specCrc_any (a : Option Addr) (n cap : Nat) (zs : List Int) (w : World) (hl : Hid (zs.length = n)) (hr : Rd w a zs) (hn : n ≤ 2097152) :
    Calls Try.prog 50 #[.slice a n cap] w fun e w' => e = .returned (.int .i64 ((csum zs n ^^^ 4294967295 : Nat) : Int)) ∧ w' = w := by
  have hz := hr.1
  go_enter Try.func50, Try.ntmps50
  go_wp2
  go_loop [3, 4] (fun r i => ∃ k : Nat, k ≤ n ∧ r = .int .i64 (csum zs k) ∧ i = .int .i64 k) (fun _ i => n - (intOf i).toNat)
  case atStart => exact ⟨0, Nat.zero_le _, rfl, rfl⟩
  case round =>
    obtain ⟨k, hk, rfl, rfl⟩ := hrel
    have hR := csum_lt zs hz k
    by_cases hlt : k < n
    · have hne : zs ≠ [] := by intro h; have := hl.out; subst h; simp at this; omega
      obtain ⟨b, off, rfl, hb, hc⟩ := hr.2.resolve_left hne
      obtain ⟨c, hce⟩ : ∃ c : Nat, zs[k]?.getD 0 = (c : Int) := Int.eq_ofNat_of_zero_le (hz k).1
      have hc255 : c ≤ 255 := by have := (hz k).2; omega
      have hcell : w.cell? ⟨b, off + k, none⟩ = some (.int .u8 (c : Int)) := by rw [← hce]; exact hc k (by have := hl.out; omega)
      obtain ⟨R, hRe⟩ : ∃ R, R = csum zs k := ⟨_, rfl⟩
      have HS : Hid (csum zs (k + 1) = cits 8 (R ^^^ c)) := by show csum zs (k + 1) = _; rw [csum, hRe, hce]; rfl
      rw [← hRe] at hR ⊢
      have hx : bits .xor .i64 (R : Int) (c : Int) = ((R ^^^ c : Nat) : Int) := i64_xor_nat _ _ (by omega) (by omega)
      obtain ⟨X, hX⟩ : ∃ X, X = R ^^^ c := ⟨_, rfl⟩
      have hXl : X < 4294967296 := by rw [hX]; exact cxor_lt _ _ hR (by omega)
      rw [← hX] at hx HS
      clear hX hRe hce hc hz hne hr
      go_wp2
      go_loop [3, 5] (fun r i => ∃ j : Nat, j ≤ 8 ∧ r = .int .i64 (cits j X) ∧ i = .int .i64 j) (fun _ i => 8 - (intOf i).toNat)
      case atStart => exact ⟨0, Nat.zero_le _, rfl, rfl⟩
      case round =>
        obtain ⟨j, hj, rfl, rfl⟩ := hrel
        have hYl := cits_lt j X hXl
        by_cases hjl : j < 8
        · have hY' : cits (j + 1) X = cstep (cits j X) := rfl
          obtain ⟨Y, hY⟩ : ∃ Y, Y = cits j X := ⟨_, rfl⟩
          rw [← hY] at hYl hY' ⊢
          by_cases hodd : Y % 2 = 1
          · have hxr := xor_half Y hYl
            rw [cstep_odd Y hodd] at hY'
            have HY : Hid (cits (j + 1) X = Y / 2 ^^^ 3988292384) := hY'
            have hd : ((Y : Int) % 2 == 1) = true := by simp; omega
            clear hY' hY hx hcell
            go_wp2
            go_round
            case rel => exact ⟨j + 1, by omega, by rw [HY.out], by go_num⟩
            case measure => simp [intOf]; omega
          · rw [cstep_even Y hodd] at hY'
            have HY : Hid (cits (j + 1) X = Y / 2) := hY'
            have hd : ((Y : Int) % 2 == 1) = false := by simp; omega
            clear hY' hY hx hcell
            go_wp2
            go_round
            case rel => exact ⟨j + 1, by omega, by rw [HY.out]; go_num, by go_num⟩
            case measure => simp [intOf]; omega
        · have e : j = 8 := by omega
          subst e
          go_wp2
          go_round
          case rel => exact ⟨k + 1, by omega, by rw [HS.out], by go_num⟩
          case measure => simp [intOf]; omega
    · have e : k = n := by omega
      subst e
      have hx : bits .xor .i64 (csum zs k : Int) 4294967295 = ((csum zs k ^^^ 4294967295 : Nat) : Int) := i64_xor_nat _ 4294967295 (by omega) (by omega)
      go_wp2
      go_ret
      exact ⟨rfl, rfl⟩

end Go.Proofs.Ytbjmjmammpgbmaa
