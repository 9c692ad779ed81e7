/-
  WidthOf, the model's and the program's; the walk of the law FnExactWidthOf.
-/
import Derived.Test.YtofbfbandipjoabWid
import Derived.Test.YtofbfbandipjoabIMarks
namespace Go.Proofs.Ytofbfbandipjoab
open Go.RowKit
set_option linter.unusedVariables false

def sumw (zs : List Int) : Nat → Int
  | 0 => 0
  | k + 1 => sumw zs k + wd (zs[k]?.getD 0)

theorem sumw_bd (zs : List Int) : ∀ k : Nat, 0 ≤ sumw zs k ∧ sumw zs k ≤ 2 * k
  | 0 => by simp [sumw]
  | k + 1 => by
    have h1 := sumw_bd zs k
    have h2 := wd_bd (zs[k]?.getD 0)
    simp only [sumw]
    omega

set_option maxHeartbeats 400000 in
theorem specWidOf_any (a : Option Addr) (n cap : Nat) (zs : List Int) (w : World) (hl : Hid (zs.length = n)) (hr : RdI w a zs) (hn : n ≤ 2097152) :
    Calls Try.prog 11 #[.slice a n cap] w fun e w' => e = .returned (.int .i64 (sumw zs n)) ∧ Below w.heap.size w w' := by
  go_enter Try.func11, Try.ntmps11
  go_wp2
  go_loopw [3, 8] (fun s i wr => ∃ k : Nat, k ≤ n ∧ s = .int .i64 (sumw zs k) ∧ i = .int .i64 k ∧ Below w.heap.size w wr) (fun _ i _ => n - (intOf i).toNat)
  case atStart => exact ⟨0, Nat.zero_le _, rfl, rfl, Below.refl _ _⟩
  case round =>
    obtain ⟨k, hk, rfl, rfl, hb⟩ := hrel
    by_cases hlt : k < n
    · have hne : zs ≠ [] := by intro h; have := hl.out; subst h; simp at this; omega
      obtain ⟨b, off, rfl, hbl, hc⟩ := hr.resolve_left hne
      obtain ⟨x, hx⟩ : ∃ x, x = zs[k]?.getD 0 := ⟨_, rfl⟩
      obtain ⟨S, hS⟩ : ∃ S, S = sumw zs k := ⟨_, rfl⟩
      have hcell : wr.cell? ⟨b, off + k, none⟩ = some (.int .i64 x) := by rw [hx]; exact (hb.cell (p := ⟨b, off + k, none⟩) hbl).trans (hc k (by have := hl.out; omega))
      have HD : Hid (sumw zs (k + 1) = S + wd x) := by show sumw zs (k + 1) = _; rw [sumw, hx, hS]
      have s1 := sumw_bd zs k
      have s2 := wd_bd x
      rw [← hS] at s1 ⊢
      clear hS hx hc hne hr
      go_wp2_with fail
      refine (specWid_any x _).mono ?_
      rintro e w2 ⟨rfl, hb1⟩
      have hb2 := hb.trans (hb1.mono hb.size)
      go_wp2
      go_roundw
      case rel => exact ⟨k + 1, by omega, by rw [HD.out], by go_num, hb2⟩
      case measure => simp [intOf]; omega
    · have e : k = n := by omega
      subst e
      go_wp2
      go_ret
      exact ⟨rfl, hb⟩

set_option maxHeartbeats 400000 in
theorem implWidOf_any (a : Option Addr) (n cap : Nat) (zs : List Int) (w : World) (hl : Hid (zs.length = n)) (hr : RdI w a zs) (hn : n ≤ 2097152) :
    Calls Try.prog 13 #[.slice a n cap] w fun e w' => e = .returned (.int .i64 (sumw zs n)) ∧ Below w.heap.size w w' := by
  go_enter Try.func13, Try.ntmps13
  go_wp2
  go_loopw [3, 8] (fun s i wr => ∃ k : Nat, k ≤ n ∧ s = .int .i64 (sumw zs k) ∧ i = .int .i64 k ∧ Below w.heap.size w wr) (fun _ i _ => n - (intOf i).toNat)
  case atStart => exact ⟨0, Nat.zero_le _, rfl, rfl, Below.refl _ _⟩
  case round =>
    obtain ⟨k, hk, rfl, rfl, hb⟩ := hrel
    by_cases hlt : k < n
    · have hne : zs ≠ [] := by intro h; have := hl.out; subst h; simp at this; omega
      obtain ⟨b, off, rfl, hbl, hc⟩ := hr.resolve_left hne
      obtain ⟨x, hx⟩ : ∃ x, x = zs[k]?.getD 0 := ⟨_, rfl⟩
      obtain ⟨S, hS⟩ : ∃ S, S = sumw zs k := ⟨_, rfl⟩
      have hcell : wr.cell? ⟨b, off + k, none⟩ = some (.int .i64 x) := by rw [hx]; exact (hb.cell (p := ⟨b, off + k, none⟩) hbl).trans (hc k (by have := hl.out; omega))
      have HD : Hid (sumw zs (k + 1) = S + wd x) := by show sumw zs (k + 1) = _; rw [sumw, hx, hS]
      have s1 := sumw_bd zs k
      have s2 := wd_bd x
      rw [← hS] at s1 ⊢
      clear hS hx hc hne hr
      go_wp2_with fail
      refine (implWid_any x _).mono ?_
      rintro e w2 ⟨rfl, rfl⟩
      have hb2 := hb
      go_wp2
      go_roundw
      case rel => exact ⟨k + 1, by omega, by rw [HD.out], by go_num, hb2⟩
      case measure => simp [intOf]; omega
    · have e : k = n := by omega
      subst e
      go_wp2
      go_ret
      exact ⟨rfl, hb⟩

set_option maxHeartbeats 1000000 in
theorem widthOf_law (a : Option Addr) (n cap : Nat) (zs : List Int) (w : World) (hl : zs.length = n) (hr : RdI w a zs) (hm : n ≤ maxLen) :
    Calls Try.prog 5 #[.slice a n cap] w fun e w' => e = .returned (.bool true) ∧ Below w.heap.size w w' := by
  have HL : Hid (zs.length = n) := hl
  clear hl
  unfold maxLen at hm
  by_cases hn : n ≤ 1048576
  · have hlt : ¬ (1048576 : Int) < (n : Int) := by omega
    obtain ⟨v, hv⟩ : ∃ v : Int, v = sumw zs n := ⟨_, rfl⟩
    have HV : Hid (v = _) := hv
    clear hv
    have hne : (v != v) = false := by simp
    go_enter Try.func5, Try.ntmps5
    go_wp2_with fail
    refine (toIntS_any a n cap zs _ HL hr hn).mono ?_
    rintro e w1 ⟨rfl, ho1, hb1⟩
    go_wp2_with fail
    refine (specWidOf_any _ n _ zs _ HL (rdI_own HL.out ho1) (by omega)).mono ?_
    rintro e w1' ⟨rfl, hb1'⟩
    rw [← HV.out]
    have hb1'' := hb1.trans (hb1'.mono hb1.size)
    go_wp2_with fail
    refine (toIntS_any a n cap zs _ HL (hr.later hb1'') hn).mono ?_
    rintro e w2 ⟨rfl, ho2, hb2⟩
    have hb2' := hb1''.trans (hb2.mono hb1''.size)
    go_wp2_with fail
    refine (implWidOf_any _ n _ zs _ HL (rdI_own HL.out ho2) (by omega)).mono ?_
    rintro e w3 ⟨rfl, hb3⟩
    rw [← HV.out]
    have hb3' := hb2'.trans (hb3.mono hb2'.size)
    have ho3 := own_later ho2 hb3
    go_wp2_with fail
    refine (toIntS_any a n cap zs _ HL (hr.later hb3') hn).mono ?_
    rintro e w4 ⟨rfl, ho4, hb4⟩
    have hb4' := hb3'.trans (hb4.mono hb3'.size)
    have ho4' := own_later ho3 hb4
    go_wp2_with fail
    refine (eqIntS_true _ _ n _ _ zs _ HL (rdI_own HL.out ho4') (rdI_own HL.out ho4) (by omega)).mono ?_
    rintro e w5 ⟨rfl, hb5⟩
    go_wp2
    go_ret
    exact ⟨rfl, hb4'.trans (hb5.mono hb4'.size)⟩
  · have hlt : (1048576 : Int) < (n : Int) := by omega
    go_enter Try.func5, Try.ntmps5
    go_wp2
    go_ret
    exact ⟨rfl, Below.refl _ _⟩

end Go.Proofs.Ytofbfbandipjoab
