/-
  Crc32, the program's: a register that a closure turns, byte by byte.
-/
import Derived.Test.YtbjmjmammpgbmaaCrc
import Derived.Test.YtbjmjmammpgbmaaKeep
namespace Go.Proofs.Ytbjmjmammpgbmaa
open Go.RowKit
set_option linter.unusedVariables false

/-- The register: one cell of the call's own. -/
def Reg (w : World) (g : Nat) (r : Int) : Prop := w.cell? ⟨g, 0, none⟩ = some (.int .u32 r) ∧ w.frozen? ⟨g, 0, none⟩ = false

theorem reg_set {w : World} {g : Nat} {r : Int} (h : Reg w g r) (s : Int) : Reg (w.setCell ⟨g, 0, none⟩ (.int .u32 s)) g s ∧ w.grownBy (w.setCell ⟨g, 0, none⟩ (.int .u32 s)) (some g) := by
  refine ⟨⟨World.cell?_setCell_same w _ _ h.1, ?_⟩, ⟨rfl, rfl, rfl, by simp, fun k _ hk => heap_setCell_other w ⟨g, 0, none⟩ k _ (fun e => hk (by simp [e]))⟩⟩
  simpa using h.2

theorem xor_u32 (r c : Nat) (h : r < 4294967296) (hc : c < 4294967296) : bits .xor .u32 (r : Int) (c : Int) = ((r ^^^ c : Nat) : Int) := u32_xor_nat r c h hc
theorem xor_half32 (r : Nat) (h : r < 4294967296) : bits .xor .u32 ((r : Int) / 2) 3988292384 = ((r / 2 ^^^ 3988292384 : Nat) : Int) := by
  have e : ((r : Int) / 2) = ((r / 2 : Nat) : Int) := by omega
  rw [e]
  exact u32_xor_nat (r / 2) 3988292384 (by omega) (by omega)

set_option maxHeartbeats 1000000 in
theorem take_any (g r c : Nat) (w : World) (hreg : Reg w g (r : Int)) (hr : r < 4294967296) (hc : c < 256) :
    Calls Try.prog 51 #[.int .u8 (c : Int), .pointer (some ⟨g, 0, none⟩)] w fun e w' => e = .returned (.tuple #[]) ∧ Reg w' g (cits 8 (r ^^^ c) : Nat) ∧ w.grownBy w' (some g) := by
  have hx := xor_u32 r c hr (by omega)
  have h1 := hreg.1
  have h2 := hreg.2
  obtain ⟨X, hX⟩ : ∃ X, X = r ^^^ c := ⟨_, rfl⟩
  have hXl : X < 4294967296 := by rw [hX]; exact cxor_lt _ _ hr (by omega)
  rw [← hX] at hx ⊢
  have HS := reg_set hreg (X : Int)
  have HH : Hid (_ ∧ _) := HS
  clear hX HS
  go_enter Try.func51, Try.ntmps51
  go_wp2
  go_loopw [8] (fun i wr => ∃ j : Nat, j ≤ 8 ∧ i = .int .i64 j ∧ Reg wr g (cits j X : Nat) ∧ w.grownBy wr (some g)) (fun i _ => 8 - (intOf i).toNat)
  case atStart => exact ⟨0, Nat.zero_le _, rfl, HH.out.1, HH.out.2⟩
  case round =>
    obtain ⟨j, hj, rfl, hreg2, hgr⟩ := hrel
    have hYl := cits_lt j X hXl
    by_cases hjl : j < 8
    · have hY' : cits (j + 1) X = cstep (cits j X) := rfl
      obtain ⟨Y, hY⟩ : ∃ Y, Y = cits j X := ⟨_, rfl⟩
      rw [← hY] at hYl hY' hreg2
      have g1 := hreg2.1
      have g2 := hreg2.2
      have hand : bits .and .u32 (Y : Int) 1 = ((Y % 2 : Nat) : Int) := by
        have := u32_and_nat Y 1 hYl (by omega)
        rw [Nat.and_one_is_mod] at this
        exact this
      clear hY hx h1 h2
      by_cases hodd : Y % 2 = 1
      · have hxr := xor_half32 Y hYl
        rw [hodd] at hand
        rw [cstep_odd Y hodd] at hY'
        have s1 := reg_set hreg2 ((Y : Int) / 2)
        have s2 := reg_set s1.1 ((Y / 2 ^^^ 3988292384 : Nat) : Int)
        have HY : Hid (cits (j + 1) X = Y / 2 ^^^ 3988292384) := hY'
        have H1 : Hid (_ ∧ _) := s1
        have H2 : Hid (_ ∧ _) := s2
        clear hY' s1 s2
        go_wp2
        go_roundw
        case rel => exact ⟨j + 1, by omega, by go_num, by rw [HY.out]; exact H2.out.1, grownBy_trans hgr (grownBy_trans H1.out.2 H2.out.2)⟩
        case measure => simp [intOf]; omega
      · have hev : Y % 2 = 0 := by omega
        rw [hev] at hand
        rw [cstep_even Y hodd] at hY'
        have s1 := reg_set hreg2 ((Y : Int) / 2)
        have HY : Hid (cits (j + 1) X = Y / 2) := hY'
        have H1 : Hid (_ ∧ _) := s1
        clear hY' s1 hodd
        go_wp2
        go_roundw
        case rel => exact ⟨j + 1, by omega, by go_num, by rw [HY.out]; exact H1.out.1, grownBy_trans hgr H1.out.2⟩
        case measure => simp [intOf]; omega
    · have e : j = 8 := by omega
      subst e
      go_wp2
      go_end0
      exact ⟨rfl, hreg2, hgr⟩

set_option maxHeartbeats 1000000 in
theorem implCrc_any (a : Option Addr) (n cap : Nat) (zs : List Int) (w : World) (hl : Hid (zs.length = n)) (hr : Rd w a zs) (hn : n ≤ 2097152) :
    Calls Try.prog 43 #[.slice a n cap] w fun e w' => e = .returned (.int .i64 ((csum zs n ^^^ 4294967295 : Nat) : Int)) ∧ Below w.heap.size w w' := by
  have hz := hr.1
  go_enter Try.func43, Try.ntmps43
  go_wp2
  go_loopw [10] (fun i wr => ∃ k : Nat, k ≤ n ∧ i = .int .i64 k ∧ Reg wr w.heap.size (csum zs k : Nat) ∧ Below w.heap.size w wr) (fun i _ => n - (intOf i).toNat)
  case atStart => exact ⟨0, Nat.zero_le _, rfl, ⟨by simp; rfl, by simp⟩, (Below.refl _ _).alloc (Nat.le_refl _) _⟩
  case round =>
    obtain ⟨k, hk, rfl, hreg, hbel⟩ := hrel
    have hR := csum_lt zs hz k
    by_cases hlt : k < n
    · have hne : zs ≠ [] := by intro h; have := hl.out; subst h; simp at this; omega
      obtain ⟨b, off, rfl, hb, hc⟩ := hr.2.resolve_left hne
      obtain ⟨c, hce⟩ : ∃ c : Nat, zs[k]?.getD 0 = (c : Int) := Int.eq_ofNat_of_zero_le (hz k).1
      have hc255 : c ≤ 255 := by have := (hz k).2; omega
      have hcell : wr.cell? ⟨b, off + k, none⟩ = some (.int .u8 (c : Int)) := by rw [← hce]; exact (hbel.cell (p := ⟨b, off + k, none⟩) hb).trans (hc k (by have := hl.out; omega))
      have HS : Hid (csum zs (k + 1) = cits 8 (csum zs k ^^^ c)) := by show csum zs (k + 1) = _; rw [csum, hce]; rfl
      have hbs := hbel.size
      clear hce hc hz hne hr
      go_wp2_with (go_at_call 51; refine (take_any _ (csum zs k) c _ hreg hR (by omega)).mono ?_; rintro e w2 ⟨rfl, hreg2, hg2⟩)
      have hbel2 : Below w.heap.size w w2 := hbel.grown hg2 hbs (fun x h => by cases h; exact Nat.le_refl _)
      go_wp2
      go_roundw
      case rel => exact ⟨k + 1, by omega, by go_num, by rw [HS.out]; exact hreg2, hbel2⟩
      case measure => simp [intOf]; omega
    · have e : k = n := by omega
      subst e
      have g1 := hreg.1
      have hx : bits .xor .u32 IntKind.u32.max (csum zs k : Int) = ((csum zs k ^^^ 4294967295 : Nat) : Int) := by
        have h := u32_xor_nat 4294967295 (csum zs k) (by omega) hR
        rw [Nat.xor_comm] at h
        exact h
      have hxl : csum zs k ^^^ 4294967295 < 4294967296 := by
        have : csum zs k ^^^ 4294967295 < 2 ^ 32 := Nat.xor_lt_two_pow (by omega) (by omega)
        omega
      obtain ⟨X, hX⟩ : ∃ X, X = csum zs k ^^^ 4294967295 := ⟨_, rfl⟩
      rw [← hX] at hx hxl
      have HX : Hid (X = csum zs k ^^^ 4294967295) := hX
      have hw : wrap64 (X : Int) = (X : Int) := IntWalk.wrap64_in _ ⟨by omega, by omega⟩
      clear hX
      go_wp2
      go_ret
      exact ⟨by rw [← HX.out]; rfl, hbel⟩

end Go.Proofs.Ytbjmjmammpgbmaa
