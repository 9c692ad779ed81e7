/-
  readFrame of the program: the code 5. By program (rigen.py).
-/
import Derived.Test.YtbjmjmammpgbmaaRfC
import Derived.Test.YtbjmjmammpgbmaaRfIP
import Derived.Test.YtbjmjmammpgbmaaGetI
import Derived.Test.YtbjmjmammpgbmaaFrI
import Derived.Test.YtbjmjmammpgbmaaNeedI
import Derived.Test.YtbjmjmammpgbmaaEnt
import Derived.Test.YtbjmjmammpgbmaaPlain
import Derived.Deep.RegionHeld3
import Derived.Handy
namespace Go.Proofs.Ytbjmjmammpgbmaa
open Go.RowKit
set_option linter.unusedVariables false
set_option linter.unusedSimpArgs false

set_option maxRecDepth 100000 in
set_option maxHeartbeats 1500000 in
theorem readRf_5 (b off n c : Nat) (zs : List Int) (P s : Nat) (num : Int) (w : World) (hl : zs.length = n) (hb : b < w.heap.size) (hc : ∀ i, i < n → w.cell? ⟨b, off + i, none⟩ = some (.int .u8 (zs[i]?.getD 0))) (hz : Byt zs)
    (hcn : n ≤ c) (hcm : c ≤ maxLen) (hn : n ≤ 1048576) (hP : P + 10 ≤ n) (hs : gnum zs P 2 = (s : Int)) (hnum : gnum zs (P + 2) 4 = num) (h3 : ¬ s = 0) (h3' : ¬ 1000 < s) (h4 : ¬ (n : Int) - (P : Int) - 10 < (s : Int)) (h5 : num = 0 ∨ 1000000000 < num) :
    Calls Try.prog 34 #[.slice (some ⟨b, off, none⟩) n c, .int .i64 (P : Int)] w fun e w' => e = .panicked [{ v := .iface 55 (.int .i64 5), recovered := false }] ∧ Below w.heap.size w w' := by
  unfold maxLen at hcm
  have HC : Hid (∀ w', Below w.heap.size w w' → ∀ i, i < n → w'.cell? ⟨b, off + i, none⟩ = some (.int .u8 (zs[i]?.getD 0))) := fun w' hb' i hi => (hb'.cell (p := ⟨b, off + i, none⟩) hb).trans (hc i hi)
  have HH : Hid (∀ w', Below w.heap.size w w' → Rd w' (some ⟨b, off + P, none⟩) (cutL zs P 10)) := fun w' hb' => rd_cut (Nat.lt_of_lt_of_le hb hb'.size) hz hl (HC.out w' hb') P 10 (by omega)
  have hl10 : (cutL zs P 10).length = 10 := cutL_len _ _ _ (by omega)
  have g1 : Hid (∀ w' cp, Below w.heap.size w w' → Calls Try.prog 47 #[.slice (some ⟨b, off + P, none⟩) 10 cp, .int .i64 0, .int .i64 2] w' fun e w'' => e = .returned (.tuple #[.int .i64 (s : Int), .bool true]) ∧ w'' = w') := fun w' cp hb' => by
    rw [← hs, show gnum zs P 2 = gnum (cutL zs P 10) 0 2 from (gnum_cut zs P 10 0 2 (by omega)).symm]; exact implGet_yes _ 10 cp _ 0 2 w' hl10 (HH.out w' hb') (by omega) (by omega) (by omega) (by omega)
  have g2 : Hid (∀ w' cp, Below w.heap.size w w' → Calls Try.prog 47 #[.slice (some ⟨b, off + P, none⟩) 10 cp, .int .i64 2, .int .i64 4] w' fun e w'' => e = .returned (.tuple #[.int .i64 num, .bool true]) ∧ w'' = w') := fun w' cp hb' => by
    rw [← hnum, show gnum zs (P + 2) 4 = gnum (cutL zs P 10) 2 4 from (gnum_cut zs P 10 2 4 (by omega)).symm]; exact implGet_yes _ 10 cp _ 2 4 w' hl10 (HH.out w' hb') (by omega) (by omega) (by omega) (by omega)
  have hnb := gnum4_bd zs hz (P + 2)
  rw [hnum] at hnb
  obtain ⟨A, hA⟩ : ∃ A : Nat, A = P + 10 := ⟨_, rfl⟩
  have a1 : (P : Int) + 10 = (A : Int) := by omega
  have aw1 : IntKind.i64.wrap (A : Int) = (A : Int) := wrap_i64_in _ (by omega) (by omega)
  have a2 : A - P = 10 := by omega
  have a3 : A ≤ n := by omega
  have a4 : A ≤ c := by omega
  have a5 : ¬ c < A := by omega
  have a6 : P ≤ A := by omega
  have a7 : ¬ c = P := by omega
  have a8 : ¬ A = P := by omega
  have t1 : (0 : Int) ≤ (P : Int) := by omega
  have t2 : (P : Int) ≤ (n : Int) := by omega
  have t3 : (10 : Int) ≤ (n : Int) - (P : Int) := by omega
  have bW0 : Below w.heap.size w (w.alloc (.cells #[.int .i64 0, .string ⟨#[]⟩] 33)) := (Below.refl _ _).alloc (Nat.le_refl _) _
  have bD : Below w.heap.size w (w.alloc (.cells #[.int .i64 0, .string ⟨#[]⟩] 33)).drew := bW0.drew
  have qT : Hid (∀ w', Calls Try.prog 40 #[.int .i64 (s : Int)] w' fun e w'' => e = .returned (.bool true) ∧ w'' = w') := fun w' => by
    have := textSizeOk_any (s : Int) w'
    rwa [show (decide ((1 : Int) ≤ (s : Int)) && decide ((s : Int) ≤ 1000)) = true by simp; omega] at this
  have qN : Hid (∀ w', Calls Try.prog 39 #[.int .i64 num] w' fun e w'' => e = .returned (.bool false) ∧ w'' = w') := fun w' => by
    have := seqOk_any num w'
    rwa [show (decide ((1 : Int) ≤ num) && decide (num ≤ 1000000000)) = false by simp; omega] at this
  have z1 : s ≤ n - A := by omega
  have z3 : (s : Int) ≤ ((n - A : Nat) : Int) := by omega
  have hcA : ¬ c = A := by omega
  clear HC HH hl10 hc hl hz hs hnum hA h5
  go_enter Try.func34, Try.ntmps34
  go_wp2_with fail
  refine (need_yes 1 _).mono ?_
  rintro e w9 ⟨rfl, rfl⟩
  go_wp2_with fail
  refine (need_yes 2 _).mono ?_
  rintro e w9 ⟨rfl, rfl⟩
  go_wp2_with fail
  refine wp_region_held_drew (S := fun w' => True) (by kernel_rfl) trivial (fun hHeld => ?_)
  refine wpAnyH_take (i := 0) (v := .slice (some ⟨b, off, none⟩) n c) rfl (by kernel_rfl) (by kernel_rfl) (by kernel_rfl) (fun _ _ _ h => h) (Or.inl ⟨by kernel_rfl, ?_⟩) (by assumption) ?_
  · intro w9 hSw; (try dsimp only at hSw); go_simp
  simp only [Act.put, List.getElem_toArray, List.getElem_cons_succ, List.getElem_cons_zero, List.setIfInBounds_toArray, List.set_cons_zero, List.set_cons_succ]
  refine wpAnyH_take (i := 1) (v := .int .i64 P) rfl (by kernel_rfl) (by kernel_rfl) (by kernel_rfl) (fun _ _ _ h => h) (Or.inl ⟨by kernel_rfl, ?_⟩) (by assumption) ?_
  · intro w9 hSw; (try dsimp only at hSw); go_simp
  simp only [Act.put, List.getElem_toArray, List.getElem_cons_succ, List.getElem_cons_zero, List.setIfInBounds_toArray, List.set_cons_zero, List.set_cons_succ]
  refine wpAnyH_take (i := 2) (v := .int .i64 P) rfl (by kernel_rfl) (by kernel_rfl) (by kernel_rfl) (fun _ _ _ h => h) (Or.inl ⟨by kernel_rfl, ?_⟩) (by assumption) ?_
  · intro w9 hSw; (try dsimp only at hSw); go_simp
  simp only [Act.put, List.getElem_toArray, List.getElem_cons_succ, List.getElem_cons_zero, List.setIfInBounds_toArray, List.set_cons_zero, List.set_cons_succ]
  refine wpAnyH_take (i := 3) (v := .int .i64 A) rfl (by kernel_rfl) (by kernel_rfl) (by kernel_rfl) (fun _ _ _ h => h) (Or.inl ⟨by kernel_rfl, ?_⟩) (by assumption) ?_
  · intro w9 hSw; (try dsimp only at hSw); go_simp
  simp only [Act.put, List.getElem_toArray, List.getElem_cons_succ, List.getElem_cons_zero, List.setIfInBounds_toArray, List.set_cons_zero, List.set_cons_succ]
  refine wpAnyH_take (i := 4) (v := .slice (some ⟨b, off + P, none⟩) 10 (c - P)) rfl (by kernel_rfl) (by kernel_rfl) (by kernel_rfl) (fun _ _ _ h => h) (Or.inl ⟨by kernel_rfl, ?_⟩) (by assumption) ?_
  · intro w9 hSw; (try dsimp only at hSw); go_simp
  simp only [Act.put, List.getElem_toArray, List.getElem_cons_succ, List.getElem_cons_zero, List.setIfInBounds_toArray, List.set_cons_zero, List.set_cons_succ]
  refine wpAnyH_take (i := 5) (v := .slice (some ⟨b, off, none⟩) n c) rfl (by kernel_rfl) (by kernel_rfl) (by kernel_rfl) (fun _ _ _ h => h) (Or.inl ⟨by kernel_rfl, ?_⟩) (by assumption) ?_
  · intro w9 hSw; (try dsimp only at hSw); go_simp
  simp only [Act.put, List.getElem_toArray, List.getElem_cons_succ, List.getElem_cons_zero, List.setIfInBounds_toArray, List.set_cons_zero, List.set_cons_succ]
  refine wpAnyH_take (i := 6) (v := .int .i64 P) rfl (by kernel_rfl) (by kernel_rfl) (by kernel_rfl) (fun _ _ _ h => h) (Or.inl ⟨by kernel_rfl, ?_⟩) (by assumption) ?_
  · intro w9 hSw; (try dsimp only at hSw); go_simp
  simp only [Act.put, List.getElem_toArray, List.getElem_cons_succ, List.getElem_cons_zero, List.setIfInBounds_toArray, List.set_cons_zero, List.set_cons_succ]
  refine wpAnyH_take (i := 7) (v := .int .i64 A) rfl (by kernel_rfl) (by kernel_rfl) (by kernel_rfl) (fun _ _ _ h => h) (Or.inl ⟨by kernel_rfl, ?_⟩) (by assumption) ?_
  · intro w9 hSw; (try dsimp only at hSw); go_simp
  simp only [Act.put, List.getElem_toArray, List.getElem_cons_succ, List.getElem_cons_zero, List.setIfInBounds_toArray, List.set_cons_zero, List.set_cons_succ]
  refine wpAnyH_take (i := 8) (v := .slice (some ⟨b, off + A, none⟩) (n - A) (c - A)) rfl (by kernel_rfl) (by kernel_rfl) (by kernel_rfl) (fun _ _ _ h => h) (Or.inl ⟨by kernel_rfl, ?_⟩) (by assumption) ?_
  · intro w9 hSw; (try dsimp only at hSw); go_simp
  simp only [Act.put, List.getElem_toArray, List.getElem_cons_succ, List.getElem_cons_zero, List.setIfInBounds_toArray, List.set_cons_zero, List.set_cons_succ]
  refine wpAnyH_take (i := 9) (v := .slice (some ⟨b, off + P, none⟩) 10 (c - P)) rfl (by kernel_rfl) (by kernel_rfl) (by kernel_rfl) (fun _ _ _ h => h) (Or.inl ⟨by kernel_rfl, ?_⟩) (by assumption) ?_
  · intro w9 hSw; (try dsimp only at hSw); go_simp
  simp only [Act.put, List.getElem_toArray, List.getElem_cons_succ, List.getElem_cons_zero, List.setIfInBounds_toArray, List.set_cons_zero, List.set_cons_succ]
  refine wpAnyH_take (i := 10) (v := .slice (some ⟨b, off + A, none⟩) (n - A) (c - A)) rfl (by kernel_rfl) (by kernel_rfl) (by kernel_rfl) (fun _ _ _ h => h) (Or.inl ⟨by kernel_rfl, ?_⟩) (by assumption) ?_
  · intro w9 hSw; (try dsimp only at hSw); go_simp
  simp only [Act.put, List.getElem_toArray, List.getElem_cons_succ, List.getElem_cons_zero, List.setIfInBounds_toArray, List.set_cons_zero, List.set_cons_succ]
  refine wpAnyH_done (by kernel_rfl) ?_ _
  go_wp2_with fail
  refine (g1.out _ _ bD).mono ?_
  rintro e w1 ⟨rfl, rfl⟩
  go_wp2_with fail
  refine (qT.out _).mono ?_
  rintro e w1 ⟨rfl, rfl⟩
  go_wp2_with fail
  refine (need_yes 3 _).mono ?_
  rintro e w9 ⟨rfl, rfl⟩
  go_wp2_with fail
  refine (need_yes 4 _).mono ?_
  rintro e w9 ⟨rfl, rfl⟩
  go_wp2_with fail
  refine (g2.out _ _ bD).mono ?_
  rintro e w1 ⟨rfl, rfl⟩
  go_wp2_with fail
  refine (qN.out _).mono ?_
  rintro e w1 ⟨rfl, rfl⟩
  go_wp2_with fail
  refine (need_no 5 _).mono ?_
  rintro e w9 ⟨rfl, rfl⟩
  go_wp2_with fail
  exact ⟨rfl, rfl, bD⟩

end Go.Proofs.Ytbjmjmammpgbmaa
