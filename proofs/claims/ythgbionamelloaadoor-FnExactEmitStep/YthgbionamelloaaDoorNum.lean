/-
  NumText, the model's: the decimal numeral, digit behind digit.
-/
import Derived.Test.YthgbionamelloaaDoorRows
import Derived.Test.YthgbionamelloaaDoorShelf
import Derived.WalkKit
import Derived.WalkSpells
import Derived.WalkLawsBesides
import Derived.Laws.BytesArg
import Derived.Deep.QuietTactic
import Derived.BigQuiet
import Derived.Deep.RegionWith
import Derived.Deep.DrawnRows
namespace Go.Proofs.YthgbionamelloaaDoor
open Go.RowKit
set_option linter.unusedVariables false
attribute [local go_sem ↓] Go.wp_at_zero Go.wp_at_succ

theorem bcell {W w1 : World} (hb : Below W.heap.size W w1) : ∀ b o, b < W.heap.size → w1.cell? ⟨b, o, none⟩ = W.cell? ⟨b, o, none⟩ :=
  fun b o h => hb.cell (p := ⟨b, o, none⟩) h

theorem one_byte (d : Int) (b : Nat) (W : World) (h : W.cell? ⟨b, 0, none⟩ = some (.int .u8 d)) :
    (convert 26 9 (.slice (some ⟨b, 0, none⟩) 1 1)).run Tryd.prog W = .ok (.string (strOfNums [d])) W := by
  refine run_convert_bytes_arg (P := Tryd.prog) W 26 5 Tryd.underlying26 Tryd.underlying5 b 0 1 1 [d] rfl ?_ 9 Tryd.underlying9
  intro i hi
  obtain rfl : i = 0 := by omega
  simpa using h

theorem dec_small (n : Nat) (h : n < 10) : strOfNums [48 + (n : Int)] = ⟨(Lib.decDigits n).toArray⟩ := by
  rw [Lib.decDigits, dif_pos h]
  have e : (48 + (n : Int)).toNat = 48 + n := by omega
  simp [strOfNums, e]

theorem dec_big (n : Nat) (h : ¬ n < 10) : (⟨(Lib.decDigits (n / 10)).toArray⟩ : ByteArray) ++ strOfNums [48 + (n : Int) % 10] = ⟨(Lib.decDigits n).toArray⟩ := by
  conv => rhs; rw [Lib.decDigits, dif_neg h]
  have e : (48 + (n : Int) % 10).toNat = 48 + n % 10 := by omega
  apply ByteArray.ext
  simp [strOfNums, e]

theorem nDigits_le (u : Nat) : Lib.nDigits u ≤ u + 1 := by
  induction u using Nat.strongRecOn with
  | _ u ih =>
    by_cases h : u < 10
    · rw [Lib.nDigits_small h]; omega
    · rw [Lib.nDigits_big h]
      have := ih (u / 10) (by omega)
      omega

theorem dec_size (u : Nat) : (⟨(Lib.decDigits u).toArray⟩ : ByteArray).size ≤ u + 1 := by
  have := nDigits_le u
  show (Lib.decDigits u).toArray.size ≤ _
  rw [List.size_toArray, Lib.decDigits_length]
  exact this

set_option maxHeartbeats 400000 in
theorem num_yes (n : Nat) (hn : n ≤ 4294967295) (w : World) :
    Calls Tryd.prog 29 #[.int .i64 n] w fun e w' => e = .returned (.bool true) ∧ w' = w := by
  have h0 : (0 : Int) ≤ (n : Int) := by omega
  have h1 : (n : Int) ≤ 4294967295 := by omega
  go_enter Tryd.func29, Tryd.ntmps29
  go_wp2
  go_ret
  exact ⟨by simp, rfl⟩

set_option maxRecDepth 100000 in
set_option maxHeartbeats 1000000 in
theorem specNum_yes (n : Nat) (hn : n ≤ 4294967295) : ∀ w : World,
    Calls Tryd.prog 17 #[.int .i64 n] w fun e w' => e = .returned (.string ⟨(Lib.decDigits n).toArray⟩) ∧ Below w.heap.size w w' := by
  induction n using Nat.strongRecOn with
  | _ n ih =>
    intro w
    by_cases h : n < 10
    · have h' : (n : Int) < 10 := by omega
      have hcv := one_byte (48 + (n : Int)) w.heap.size (w.alloc (.cells #[.int .u8 (48 + (n : Int))] 5)) (by simp)
      rw [dec_small n h] at hcv
      go_enter Tryd.func17, Tryd.ntmps17
      go_wp2_with (go_at_call 29; refine (num_yes n hn _).mono ?_; rintro e w' ⟨rfl, rfl⟩)
      go_ret
      exact ⟨rfl, (Below.refl _ _).alloc (Nat.le_refl _) _⟩
    · have h' : ¬ (n : Int) < 10 := by omega
      have IH := ih (n / 10) (by omega) (by omega)
      have hcv := one_byte (48 + (n : Int) % 10)
      have hb0 := dec_big n h
      have hA := dec_size (n / 10)
      obtain ⟨A, hAe⟩ : ∃ A : ByteArray, A = ⟨(Lib.decDigits (n / 10)).toArray⟩ := ⟨_, rfl⟩
      obtain ⟨B, hBe⟩ : ∃ B : ByteArray, B = strOfNums [48 + (n : Int) % 10] := ⟨_, rfl⟩
      have hB : B.size = 1 := by rw [hBe]; rfl
      rw [← hAe] at hb0 hA IH
      rw [← hBe] at hb0 hcv
      have hsum : ¬ (9223372036854775807 < A.size + B.size) := by omega
      have HB : Hid (A ++ B = ⟨(Lib.decDigits n).toArray⟩) := hb0
      clear hb0 hAe hBe hB hA
      have q1 : IntKind.i64.wrap ((n : Int) / 10) = (n : Int) / 10 := by simp [IntKind.wrap, IntKind.bits, IntKind.signed]; omega
      have q2 : (n : Int).tdiv 10 = (n : Int) / 10 := Int.tdiv_eq_ediv_of_nonneg (by omega)
      have q3 : (n : Int).tmod 10 = (n : Int) % 10 := Int.tmod_eq_emod_of_nonneg (by omega)
      have q4 : IntKind.i64.wrap ((n : Int) % 10) = (n : Int) % 10 := by simp [IntKind.wrap, IntKind.bits, IntKind.signed]; omega
      have q5 : IntKind.i64.wrap (48 + (n : Int) % 10) = 48 + (n : Int) % 10 := by simp [IntKind.wrap, IntKind.bits, IntKind.signed]; omega
      have q6 : IntKind.u8.wrap (48 + (n : Int) % 10) = 48 + (n : Int) % 10 := by simp [IntKind.wrap, IntKind.bits, IntKind.signed]; omega
      clear ih
      go_enter Tryd.func17, Tryd.ntmps17
      go_wp2_with (go_at_call 29; refine (num_yes n hn _).mono ?_; rintro e w' ⟨rfl, rfl⟩)
      go_region_with (go_at_call 17; refine (IH _).mono ?_; rintro e w1 ⟨rfl, hb1⟩; have hc1 := bcell hb1)
      all_goals
        go_wp2
        go_ret
        refine ⟨by rw [← HB.out]; rfl, ?_⟩
        first
          | exact Below.alloc ((Below.drew (Below.refl _ _)).trans hb1) (by have := hb1.size; simpa using this) _
          | exact (((Below.refl _ _).alloc (Nat.le_refl _) _).drew).trans (hb1.mono (by simp))

set_option maxHeartbeats 400000 in
theorem specNum_no (n : Int) (h : n < 0 ∨ 4294967295 < n) (w : World) :
    Calls Tryd.prog 17 #[.int .i64 n] w fun e w' => e = .returned (.string ⟨#[]⟩) ∧ w' = w := by
  by_cases h0 : n < 0
  · have h0' : ¬ (0 ≤ n) := by omega
    go_enter Tryd.func17, Tryd.ntmps17
    go_wp2
    go_ret
    exact ⟨rfl, rfl⟩
  · have h1 : ¬ (n ≤ 4294967295) := by omega
    have h0' : 0 ≤ n := by omega
    go_enter Tryd.func17, Tryd.ntmps17
    go_wp2
    go_ret
    exact ⟨rfl, rfl⟩

set_option maxHeartbeats 400000 in
theorem implNum_no (n : Int) (h : n < 0 ∨ 4294967295 < n) (w : World) :
    Calls Tryd.prog 33 #[.int .i64 n] w fun e w' => e = .returned (.string ⟨#[]⟩) ∧ w' = w := by
  by_cases h0 : n < 0
  · go_enter Tryd.func33, Tryd.ntmps33
    go_wp2
    go_ret
    exact ⟨rfl, rfl⟩
  · have h1 : 4294967295 < n := by omega
    go_enter Tryd.func33, Tryd.ntmps33
    go_wp2
    go_ret
    exact ⟨rfl, rfl⟩

theorem itoa_nat (n : Nat) : Lib.itoa (n : Int) = Lib.decDigits n := by
  unfold Lib.itoa
  rw [if_neg (by omega)]
  rfl

theorem below_grow {w W : World} (os : Array Obj) (h : Below w.heap.size w W) : Below w.heap.size w (Go.Sort.grow W os) :=
  ⟨h.os, h.tape, h.output, by show w.heap.size ≤ (W.heap ++ os).size; rw [Array.size_append]; have := h.size; omega,
    fun k hk => by
      have := h.size
      show (W.heap ++ os)[k]? = _
      rw [Array.getElem?_append_left (by omega)]
      exact h.block k hk⟩

set_option maxHeartbeats 400000 in
theorem implNum_yes (n : Nat) (hn : n ≤ 4294967295) (w : World) (htab : Lib.TabIs Tryd.prog w "internal/strconv.uint64pow10" .u64 Lib.pow10Tab) :
    Calls Tryd.prog 33 #[.int .i64 n] w fun e w' => e = .returned (.string ⟨(Lib.decDigits n).toArray⟩) ∧ Below w.heap.size w w' := by
  have h0 : ¬ (n : Int) < 0 := by omega
  have h1 : ¬ 4294967295 < (n : Int) := by omega
  have HT : Hid (Lib.TabIs Tryd.prog w "internal/strconv.uint64pow10" .u64 Lib.pow10Tab) := htab
  clear htab
  go_enter Tryd.func33, Tryd.ntmps33
  go_wp2_with fail
  refine (Tryd.strconv_Itoa n (by omega) (by omega) _ HT.out).mono ?_
  rintro e w' ⟨rfl, k, os, rfl⟩
  go_wp2
  go_ret
  exact ⟨by rw [itoa_nat]; rfl, below_grow os (below_drewN (Below.refl _ _) k)⟩

end Go.Proofs.YthgbionamelloaaDoor
