/-
  Joined: RiF5, RiL, CatchI, RfI, RfAI, RfA.
-/
import Derived.Test.YtkfmpfbhhmmllaaGreatJ10FnExactStoreOk
import Derived.Test.YtkfmpfbhhmmllaaGreatJ9FnExactStoreOk
import Derived.Test.YtkfmpfbhhmmllaaGreatJ4FnExactStoreOk
import Derived.Deep.RegionHeld3
import Derived.Handy
import Derived.Test.YtkfmpfbhhmmllaaGreatJ2FnExactStoreOk
import Derived.Test.YtkfmpfbhhmmllaaGreatJ0FnExactStoreOk
import Derived.Defers
import Derived.Recover
import Derived.Laws.Pointers
import Derived.Test.YtkfmpfbhhmmllaaGreatJ3FnExactStoreOk
/- RiF5: readFrame of the program: the code 5. By program (rigen.py). -/
namespace Go.Proofs.YtkfmpfbhhmmllaaGreat
open Go.RowKit
set_option linter.unusedVariables false
set_option maxRecDepth 100000
set_option linter.unusedSimpArgs false

set_option maxRecDepth 100000 in
set_option maxHeartbeats 1500000 in
theorem readRf_5 (b off n c : Nat) (zs : List Int) (P s : Nat) (num : Int) (w : World) (hl : zs.length = n) (hb : b < w.heap.size) (hc : ∀ i, i < n → w.cell? ⟨b, off + i, none⟩ = some (.int .u8 (zs[i]?.getD 0))) (hz : Byt zs)
    (hcn : n ≤ c) (hcm : c ≤ maxLen) (hn : n ≤ 1048576) (hP : P + 10 ≤ n) (hs : gnum zs P 2 = (s : Int)) (hnum : gnum zs (P + 2) 4 = num) (h3 : ¬ s = 0) (h3' : ¬ 1000 < s) (h4 : ¬ (n : Int) - (P : Int) - 10 < (s : Int)) (h5 : num = 0 ∨ 1000000000 < num) :
    Calls Tryz.prog 117 #[.slice (some ⟨b, off, none⟩) n c, .int .i64 (P : Int)] w fun e w' => e = .panicked [{ v := .iface 146 (.int .i64 5), recovered := false }] ∧ Below w.heap.size w w' := by
  unfold maxLen at hcm
  have HC : Hid (∀ w', Below w.heap.size w w' → ∀ i, i < n → w'.cell? ⟨b, off + i, none⟩ = some (.int .u8 (zs[i]?.getD 0))) := fun w' hb' i hi => (hb'.cell (p := ⟨b, off + i, none⟩) hb).trans (hc i hi)
  have HH : Hid (∀ w', Below w.heap.size w w' → Rd w' (some ⟨b, off + P, none⟩) (cutL zs P 10)) := fun w' hb' => rd_cut (Nat.lt_of_lt_of_le hb hb'.size) hz hl (HC.out w' hb') P 10 (by omega)
  have hl10 : (cutL zs P 10).length = 10 := cutL_len _ _ _ (by omega)
  have g1 : Hid (∀ w' cp, Below w.heap.size w w' → Calls Tryz.prog 132 #[.slice (some ⟨b, off + P, none⟩) 10 cp, .int .i64 0, .int .i64 2] w' fun e w'' => e = .returned (.tuple #[.int .i64 (s : Int), .bool true]) ∧ w'' = w') := fun w' cp hb' => by
    rw [← hs, show gnum zs P 2 = gnum (cutL zs P 10) 0 2 from (gnum_cut zs P 10 0 2 (by omega)).symm]; exact implGet_yes _ 10 cp _ 0 2 w' hl10 (HH.out w' hb') (by omega) (by omega) (by omega) (by omega)
  have g2 : Hid (∀ w' cp, Below w.heap.size w w' → Calls Tryz.prog 132 #[.slice (some ⟨b, off + P, none⟩) 10 cp, .int .i64 2, .int .i64 4] w' fun e w'' => e = .returned (.tuple #[.int .i64 num, .bool true]) ∧ w'' = w') := fun w' cp hb' => by
    rw [← hnum, show gnum zs (P + 2) 4 = gnum (cutL zs P 10) 2 4 from (gnum_cut zs P 10 2 4 (by omega)).symm]; exact implGet_yes _ 10 cp _ 2 4 w' hl10 (HH.out w' hb') (by omega) (by omega) (by omega) (by omega)
  have hnb := gnum4_bd zs hz (P + 2)
  rw [hnum] at hnb
  obtain ⟨A, hA⟩ : ∃ A : Nat, A = P + 10 := ⟨_, rfl⟩
  have a1 : (P : Int) + 10 = (A : Int) := by omega
  have aw1 : IntKind.i64.wrap (A : Int) = (A : Int) := wrap_i64_in _ (by omega) (by omega)
  have a2 : A - P = 10 := by omega
  have a3 : A ≤ n := by omega
  have a4 : A ≤ c := by omega
  have a5 : ¬ c < A := by omega
  have a6 : P ≤ A := by omega
  have a7 : ¬ c = P := by omega
  have a8 : ¬ A = P := by omega
  have t1 : (0 : Int) ≤ (P : Int) := by omega
  have t2 : (P : Int) ≤ (n : Int) := by omega
  have t3 : (10 : Int) ≤ (n : Int) - (P : Int) := by omega
  have bW0 : Below w.heap.size w (w.alloc (.cells #[.int .i64 0, .string ⟨#[]⟩] 71)) := (Below.refl _ _).alloc (Nat.le_refl _) _
  have bD : Below w.heap.size w (w.alloc (.cells #[.int .i64 0, .string ⟨#[]⟩] 71)).drew := bW0.drew
  have qT : Hid (∀ w', Calls Tryz.prog 100 #[.int .i64 (s : Int)] w' fun e w'' => e = .returned (.bool true) ∧ w'' = w') := fun w' => by
    have := textSizeOk_any (s : Int) w'
    rwa [show (decide ((1 : Int) ≤ (s : Int)) && decide ((s : Int) ≤ 1000)) = true by simp; omega] at this
  have qN : Hid (∀ w', Calls Tryz.prog 99 #[.int .i64 num] w' fun e w'' => e = .returned (.bool false) ∧ w'' = w') := fun w' => by
    have := seqOk_any num w'
    rwa [show (decide ((1 : Int) ≤ num) && decide (num ≤ 1000000000)) = false by simp; omega] at this
  have z1 : s ≤ n - A := by omega
  have z3 : (s : Int) ≤ ((n - A : Nat) : Int) := by omega
  have hcA : ¬ c = A := by omega
  clear HC HH hl10 hc hl hz hs hnum hA h5
  go_enter Tryz.func117, Tryz.ntmps117
  go_wp2_with fail
  refine (need_yes 1 _).mono ?_
  rintro e w9 ⟨rfl, rfl⟩
  go_wp2_with fail
  refine (need_yes 2 _).mono ?_
  rintro e w9 ⟨rfl, rfl⟩
  go_wp2_with fail
  refine wp_region_held_drew (S := fun w' => True) (by kernel_rfl) trivial (fun hHeld => ?_)
  refine wpAnyH_take (i := 0) (v := .slice (some ⟨b, off, none⟩) n c) rfl (by kernel_rfl) (by kernel_rfl) (by kernel_rfl) (fun _ _ _ h => h) (Or.inl ⟨by kernel_rfl, ?_⟩) (by assumption) ?_
  · intro w9 hSw; (try dsimp only at hSw); go_simp
  simp only [Act.put, List.getElem_toArray, List.getElem_cons_succ, List.getElem_cons_zero, List.setIfInBounds_toArray, List.set_cons_zero, List.set_cons_succ]
  refine wpAnyH_take (i := 1) (v := .int .i64 P) rfl (by kernel_rfl) (by kernel_rfl) (by kernel_rfl) (fun _ _ _ h => h) (Or.inl ⟨by kernel_rfl, ?_⟩) (by assumption) ?_
  · intro w9 hSw; (try dsimp only at hSw); go_simp
  simp only [Act.put, List.getElem_toArray, List.getElem_cons_succ, List.getElem_cons_zero, List.setIfInBounds_toArray, List.set_cons_zero, List.set_cons_succ]
  refine wpAnyH_take (i := 2) (v := .int .i64 P) rfl (by kernel_rfl) (by kernel_rfl) (by kernel_rfl) (fun _ _ _ h => h) (Or.inl ⟨by kernel_rfl, ?_⟩) (by assumption) ?_
  · intro w9 hSw; (try dsimp only at hSw); go_simp
  simp only [Act.put, List.getElem_toArray, List.getElem_cons_succ, List.getElem_cons_zero, List.setIfInBounds_toArray, List.set_cons_zero, List.set_cons_succ]
  refine wpAnyH_take (i := 3) (v := .int .i64 A) rfl (by kernel_rfl) (by kernel_rfl) (by kernel_rfl) (fun _ _ _ h => h) (Or.inl ⟨by kernel_rfl, ?_⟩) (by assumption) ?_
  · intro w9 hSw; (try dsimp only at hSw); go_simp
  simp only [Act.put, List.getElem_toArray, List.getElem_cons_succ, List.getElem_cons_zero, List.setIfInBounds_toArray, List.set_cons_zero, List.set_cons_succ]
  refine wpAnyH_take (i := 4) (v := .slice (some ⟨b, off + P, none⟩) 10 (c - P)) rfl (by kernel_rfl) (by kernel_rfl) (by kernel_rfl) (fun _ _ _ h => h) (Or.inl ⟨by kernel_rfl, ?_⟩) (by assumption) ?_
  · intro w9 hSw; (try dsimp only at hSw); go_simp
  simp only [Act.put, List.getElem_toArray, List.getElem_cons_succ, List.getElem_cons_zero, List.setIfInBounds_toArray, List.set_cons_zero, List.set_cons_succ]
  refine wpAnyH_take (i := 5) (v := .slice (some ⟨b, off, none⟩) n c) rfl (by kernel_rfl) (by kernel_rfl) (by kernel_rfl) (fun _ _ _ h => h) (Or.inl ⟨by kernel_rfl, ?_⟩) (by assumption) ?_
  · intro w9 hSw; (try dsimp only at hSw); go_simp
  simp only [Act.put, List.getElem_toArray, List.getElem_cons_succ, List.getElem_cons_zero, List.setIfInBounds_toArray, List.set_cons_zero, List.set_cons_succ]
  refine wpAnyH_take (i := 6) (v := .int .i64 P) rfl (by kernel_rfl) (by kernel_rfl) (by kernel_rfl) (fun _ _ _ h => h) (Or.inl ⟨by kernel_rfl, ?_⟩) (by assumption) ?_
  · intro w9 hSw; (try dsimp only at hSw); go_simp
  simp only [Act.put, List.getElem_toArray, List.getElem_cons_succ, List.getElem_cons_zero, List.setIfInBounds_toArray, List.set_cons_zero, List.set_cons_succ]
  refine wpAnyH_take (i := 7) (v := .int .i64 A) rfl (by kernel_rfl) (by kernel_rfl) (by kernel_rfl) (fun _ _ _ h => h) (Or.inl ⟨by kernel_rfl, ?_⟩) (by assumption) ?_
  · intro w9 hSw; (try dsimp only at hSw); go_simp
  simp only [Act.put, List.getElem_toArray, List.getElem_cons_succ, List.getElem_cons_zero, List.setIfInBounds_toArray, List.set_cons_zero, List.set_cons_succ]
  refine wpAnyH_take (i := 8) (v := .slice (some ⟨b, off + A, none⟩) (n - A) (c - A)) rfl (by kernel_rfl) (by kernel_rfl) (by kernel_rfl) (fun _ _ _ h => h) (Or.inl ⟨by kernel_rfl, ?_⟩) (by assumption) ?_
  · intro w9 hSw; (try dsimp only at hSw); go_simp
  simp only [Act.put, List.getElem_toArray, List.getElem_cons_succ, List.getElem_cons_zero, List.setIfInBounds_toArray, List.set_cons_zero, List.set_cons_succ]
  refine wpAnyH_take (i := 9) (v := .slice (some ⟨b, off + P, none⟩) 10 (c - P)) rfl (by kernel_rfl) (by kernel_rfl) (by kernel_rfl) (fun _ _ _ h => h) (Or.inl ⟨by kernel_rfl, ?_⟩) (by assumption) ?_
  · intro w9 hSw; (try dsimp only at hSw); go_simp
  simp only [Act.put, List.getElem_toArray, List.getElem_cons_succ, List.getElem_cons_zero, List.setIfInBounds_toArray, List.set_cons_zero, List.set_cons_succ]
  refine wpAnyH_take (i := 10) (v := .slice (some ⟨b, off + A, none⟩) (n - A) (c - A)) rfl (by kernel_rfl) (by kernel_rfl) (by kernel_rfl) (fun _ _ _ h => h) (Or.inl ⟨by kernel_rfl, ?_⟩) (by assumption) ?_
  · intro w9 hSw; (try dsimp only at hSw); go_simp
  simp only [Act.put, List.getElem_toArray, List.getElem_cons_succ, List.getElem_cons_zero, List.setIfInBounds_toArray, List.set_cons_zero, List.set_cons_succ]
  refine wpAnyH_done (by kernel_rfl) ?_ _
  go_wp2_with fail
  refine (g1.out _ _ bD).mono ?_
  rintro e w1 ⟨rfl, rfl⟩
  go_wp2_with fail
  refine (qT.out _).mono ?_
  rintro e w1 ⟨rfl, rfl⟩
  go_wp2_with fail
  refine (need_yes 3 _).mono ?_
  rintro e w9 ⟨rfl, rfl⟩
  go_wp2_with fail
  refine (need_yes 4 _).mono ?_
  rintro e w9 ⟨rfl, rfl⟩
  go_wp2_with fail
  refine (g2.out _ _ bD).mono ?_
  rintro e w1 ⟨rfl, rfl⟩
  go_wp2_with fail
  refine (qN.out _).mono ?_
  rintro e w1 ⟨rfl, rfl⟩
  go_wp2_with fail
  refine (need_no 5 _).mono ?_
  rintro e w9 ⟨rfl, rfl⟩
  go_wp2_with fail
  exact ⟨rfl, rfl, bD⟩

end Go.Proofs.YtkfmpfbhhmmllaaGreat

/- RiL: readFrame of the program: the sum. By program (rigen.py). -/
namespace Go.Proofs.YtkfmpfbhhmmllaaGreat
open Go.RowKit
set_option linter.unusedVariables false
set_option maxRecDepth 100000
set_option linter.unusedSimpArgs false

set_option maxRecDepth 100000 in
set_option maxHeartbeats 2000000 in
theorem readRf_6 (b off n c : Nat) (zs : List Int) (P s : Nat) (num : Int) (w : World) (hl : zs.length = n) (hb : b < w.heap.size) (hc : ∀ i, i < n → w.cell? ⟨b, off + i, none⟩ = some (.int .u8 (zs[i]?.getD 0))) (hz : Byt zs)
    (hcn : n ≤ c) (hcm : c ≤ maxLen) (hn : n ≤ 1048576) (hP : P + 10 ≤ n) (hs : gnum zs P 2 = (s : Int)) (hnum : gnum zs (P + 2) 4 = num) (sm : Int) (hsm : gnum zs (P + 6) 4 = sm) (h3 : ¬ s = 0) (h3' : ¬ 1000 < s) (h4 : ¬ (n : Int) - (P : Int) - 10 < (s : Int)) (h5 : ¬ num = 0) (h5' : ¬ 1000000000 < num) (h6 : ¬ sm = crcI (cutL zs P 6 ++ cutL zs (P + 10) s)) :
    Calls Tryz.prog 117 #[.slice (some ⟨b, off, none⟩) n c, .int .i64 (P : Int)] w fun e w' => e = .panicked [{ v := .iface 146 (.int .i64 6), recovered := false }] ∧ Below w.heap.size w w' := by
  unfold maxLen at hcm
  have HC : Hid (∀ w', Below w.heap.size w w' → ∀ i, i < n → w'.cell? ⟨b, off + i, none⟩ = some (.int .u8 (zs[i]?.getD 0))) := fun w' hb' i hi => (hb'.cell (p := ⟨b, off + i, none⟩) hb).trans (hc i hi)
  have HH : Hid (∀ w', Below w.heap.size w w' → Rd w' (some ⟨b, off + P, none⟩) (cutL zs P 10)) := fun w' hb' => rd_cut (Nat.lt_of_lt_of_le hb hb'.size) hz hl (HC.out w' hb') P 10 (by omega)
  have hl10 : (cutL zs P 10).length = 10 := cutL_len _ _ _ (by omega)
  have g1 : Hid (∀ w' cp, Below w.heap.size w w' → Calls Tryz.prog 132 #[.slice (some ⟨b, off + P, none⟩) 10 cp, .int .i64 0, .int .i64 2] w' fun e w'' => e = .returned (.tuple #[.int .i64 (s : Int), .bool true]) ∧ w'' = w') := fun w' cp hb' => by
    rw [← hs, show gnum zs P 2 = gnum (cutL zs P 10) 0 2 from (gnum_cut zs P 10 0 2 (by omega)).symm]; exact implGet_yes _ 10 cp _ 0 2 w' hl10 (HH.out w' hb') (by omega) (by omega) (by omega) (by omega)
  have g2 : Hid (∀ w' cp, Below w.heap.size w w' → Calls Tryz.prog 132 #[.slice (some ⟨b, off + P, none⟩) 10 cp, .int .i64 2, .int .i64 4] w' fun e w'' => e = .returned (.tuple #[.int .i64 num, .bool true]) ∧ w'' = w') := fun w' cp hb' => by
    rw [← hnum, show gnum zs (P + 2) 4 = gnum (cutL zs P 10) 2 4 from (gnum_cut zs P 10 2 4 (by omega)).symm]; exact implGet_yes _ 10 cp _ 2 4 w' hl10 (HH.out w' hb') (by omega) (by omega) (by omega) (by omega)
  have hnb := gnum4_bd zs hz (P + 2)
  rw [hnum] at hnb
  obtain ⟨A, hA⟩ : ∃ A : Nat, A = P + 10 := ⟨_, rfl⟩
  have a1 : (P : Int) + 10 = (A : Int) := by omega
  have aw1 : IntKind.i64.wrap (A : Int) = (A : Int) := wrap_i64_in _ (by omega) (by omega)
  have a2 : A - P = 10 := by omega
  have a3 : A ≤ n := by omega
  have a4 : A ≤ c := by omega
  have a5 : ¬ c < A := by omega
  have a6 : P ≤ A := by omega
  have a7 : ¬ c = P := by omega
  have a8 : ¬ A = P := by omega
  have t1 : (0 : Int) ≤ (P : Int) := by omega
  have t2 : (P : Int) ≤ (n : Int) := by omega
  have t3 : (10 : Int) ≤ (n : Int) - (P : Int) := by omega
  have bW0 : Below w.heap.size w (w.alloc (.cells #[.int .i64 0, .string ⟨#[]⟩] 71)) := (Below.refl _ _).alloc (Nat.le_refl _) _
  have bD : Below w.heap.size w (w.alloc (.cells #[.int .i64 0, .string ⟨#[]⟩] 71)).drew := bW0.drew
  have qT : Hid (∀ w', Calls Tryz.prog 100 #[.int .i64 (s : Int)] w' fun e w'' => e = .returned (.bool true) ∧ w'' = w') := fun w' => by
    have := textSizeOk_any (s : Int) w'
    rwa [show (decide ((1 : Int) ≤ (s : Int)) && decide ((s : Int) ≤ 1000)) = true by simp; omega] at this
  have qN : Hid (∀ w', Calls Tryz.prog 99 #[.int .i64 num] w' fun e w'' => e = .returned (.bool true) ∧ w'' = w') := fun w' => by
    have := seqOk_any num w'
    rwa [show (decide ((1 : Int) ≤ num) && decide (num ≤ 1000000000)) = true by simp; omega] at this
  have z1 : s ≤ n - A := by omega
  have z3 : (s : Int) ≤ ((n - A : Nat) : Int) := by omega
  have hcA : ¬ c = A := by omega
  have g3 : Hid (∀ w' cp, Below w.heap.size w w' → Calls Tryz.prog 132 #[.slice (some ⟨b, off + P, none⟩) 10 cp, .int .i64 6, .int .i64 4] w' fun e w'' => e = .returned (.tuple #[.int .i64 sm, .bool true]) ∧ w'' = w') := fun w' cp hb' => by
    rw [← hsm, show gnum zs (P + 6) 4 = gnum (cutL zs P 10) 6 4 from (gnum_cut zs P 10 6 4 (by omega)).symm]; exact implGet_yes _ 10 cp _ 6 4 w' hl10 (HH.out w' hb') (by omega) (by omega) (by omega) (by omega)
  obtain ⟨C, hC⟩ : ∃ C, C = crcI (cutL zs P 6 ++ cutL zs A s) := ⟨_, rfl⟩
  have qS : Hid (∀ w', Below w.heap.size w w' → Calls Tryz.prog 115 #[.slice (some ⟨b, off + P, none⟩) 6 (c - P), .slice (some ⟨b, off + A, none⟩) s (c - A)] w' fun e w'' => e = .returned (.int .i64 C) ∧ Below w'.heap.size w' w'') := fun w' hb' => by
    rw [hC]
    exact frameSum_any _ 6 (c - P) (cutL zs P 6) _ s (cutL zs A s) w' (cutL_len _ _ _ (by omega)) (rd_cut (Nat.lt_of_lt_of_le hb hb'.size) hz hl (HC.out w' hb') P 6 (by omega)) (src_cut hl (HC.out w' hb') A s (c - A) (by omega)) (cutL_len _ _ _ (by omega)) (byt_cutL zs hz _ _) (by omega) (by omega)
  have bD1 : Below w.heap.size w (w.alloc (.cells #[.int .i64 0, .string ⟨#[]⟩] 71)).drew.drew := bD.drew
  have hq : (sm == C) = false := by rw [hC, hA]; simpa using h6
  have x1 : (6 : Nat) ≤ c - P := by omega
  have x3 : ¬ (((c - P : Nat) : Int) < 6) := by omega
  have x4 : ¬ (((c - A : Nat) : Int) < (s : Int)) := by omega
  have x2 : s ≤ c - A := by omega
  clear HC HH hl10 hc hl hz hs hnum hsm hA hC h6
  go_enter Tryz.func117, Tryz.ntmps117
  go_wp2_with fail
  refine (need_yes 1 _).mono ?_
  rintro e w9 ⟨rfl, rfl⟩
  go_wp2_with fail
  refine (need_yes 2 _).mono ?_
  rintro e w9 ⟨rfl, rfl⟩
  go_wp2_with fail
  refine wp_region_held_drew (S := fun w' => True) (by kernel_rfl) trivial (fun hHeld => ?_)
  refine wpAnyH_take (i := 0) (v := .slice (some ⟨b, off, none⟩) n c) rfl (by kernel_rfl) (by kernel_rfl) (by kernel_rfl) (fun _ _ _ h => h) (Or.inl ⟨by kernel_rfl, ?_⟩) (by assumption) ?_
  · intro w9 hSw; (try dsimp only at hSw); go_simp
  simp only [Act.put, List.getElem_toArray, List.getElem_cons_succ, List.getElem_cons_zero, List.setIfInBounds_toArray, List.set_cons_zero, List.set_cons_succ]
  refine wpAnyH_take (i := 1) (v := .int .i64 P) rfl (by kernel_rfl) (by kernel_rfl) (by kernel_rfl) (fun _ _ _ h => h) (Or.inl ⟨by kernel_rfl, ?_⟩) (by assumption) ?_
  · intro w9 hSw; (try dsimp only at hSw); go_simp
  simp only [Act.put, List.getElem_toArray, List.getElem_cons_succ, List.getElem_cons_zero, List.setIfInBounds_toArray, List.set_cons_zero, List.set_cons_succ]
  refine wpAnyH_take (i := 2) (v := .int .i64 P) rfl (by kernel_rfl) (by kernel_rfl) (by kernel_rfl) (fun _ _ _ h => h) (Or.inl ⟨by kernel_rfl, ?_⟩) (by assumption) ?_
  · intro w9 hSw; (try dsimp only at hSw); go_simp
  simp only [Act.put, List.getElem_toArray, List.getElem_cons_succ, List.getElem_cons_zero, List.setIfInBounds_toArray, List.set_cons_zero, List.set_cons_succ]
  refine wpAnyH_take (i := 3) (v := .int .i64 A) rfl (by kernel_rfl) (by kernel_rfl) (by kernel_rfl) (fun _ _ _ h => h) (Or.inl ⟨by kernel_rfl, ?_⟩) (by assumption) ?_
  · intro w9 hSw; (try dsimp only at hSw); go_simp
  simp only [Act.put, List.getElem_toArray, List.getElem_cons_succ, List.getElem_cons_zero, List.setIfInBounds_toArray, List.set_cons_zero, List.set_cons_succ]
  refine wpAnyH_take (i := 4) (v := .slice (some ⟨b, off + P, none⟩) 10 (c - P)) rfl (by kernel_rfl) (by kernel_rfl) (by kernel_rfl) (fun _ _ _ h => h) (Or.inl ⟨by kernel_rfl, ?_⟩) (by assumption) ?_
  · intro w9 hSw; (try dsimp only at hSw); go_simp
  simp only [Act.put, List.getElem_toArray, List.getElem_cons_succ, List.getElem_cons_zero, List.setIfInBounds_toArray, List.set_cons_zero, List.set_cons_succ]
  refine wpAnyH_take (i := 5) (v := .slice (some ⟨b, off, none⟩) n c) rfl (by kernel_rfl) (by kernel_rfl) (by kernel_rfl) (fun _ _ _ h => h) (Or.inl ⟨by kernel_rfl, ?_⟩) (by assumption) ?_
  · intro w9 hSw; (try dsimp only at hSw); go_simp
  simp only [Act.put, List.getElem_toArray, List.getElem_cons_succ, List.getElem_cons_zero, List.setIfInBounds_toArray, List.set_cons_zero, List.set_cons_succ]
  refine wpAnyH_take (i := 6) (v := .int .i64 P) rfl (by kernel_rfl) (by kernel_rfl) (by kernel_rfl) (fun _ _ _ h => h) (Or.inl ⟨by kernel_rfl, ?_⟩) (by assumption) ?_
  · intro w9 hSw; (try dsimp only at hSw); go_simp
  simp only [Act.put, List.getElem_toArray, List.getElem_cons_succ, List.getElem_cons_zero, List.setIfInBounds_toArray, List.set_cons_zero, List.set_cons_succ]
  refine wpAnyH_take (i := 7) (v := .int .i64 A) rfl (by kernel_rfl) (by kernel_rfl) (by kernel_rfl) (fun _ _ _ h => h) (Or.inl ⟨by kernel_rfl, ?_⟩) (by assumption) ?_
  · intro w9 hSw; (try dsimp only at hSw); go_simp
  simp only [Act.put, List.getElem_toArray, List.getElem_cons_succ, List.getElem_cons_zero, List.setIfInBounds_toArray, List.set_cons_zero, List.set_cons_succ]
  refine wpAnyH_take (i := 8) (v := .slice (some ⟨b, off + A, none⟩) (n - A) (c - A)) rfl (by kernel_rfl) (by kernel_rfl) (by kernel_rfl) (fun _ _ _ h => h) (Or.inl ⟨by kernel_rfl, ?_⟩) (by assumption) ?_
  · intro w9 hSw; (try dsimp only at hSw); go_simp
  simp only [Act.put, List.getElem_toArray, List.getElem_cons_succ, List.getElem_cons_zero, List.setIfInBounds_toArray, List.set_cons_zero, List.set_cons_succ]
  refine wpAnyH_take (i := 9) (v := .slice (some ⟨b, off + P, none⟩) 10 (c - P)) rfl (by kernel_rfl) (by kernel_rfl) (by kernel_rfl) (fun _ _ _ h => h) (Or.inl ⟨by kernel_rfl, ?_⟩) (by assumption) ?_
  · intro w9 hSw; (try dsimp only at hSw); go_simp
  simp only [Act.put, List.getElem_toArray, List.getElem_cons_succ, List.getElem_cons_zero, List.setIfInBounds_toArray, List.set_cons_zero, List.set_cons_succ]
  refine wpAnyH_take (i := 10) (v := .slice (some ⟨b, off + A, none⟩) (n - A) (c - A)) rfl (by kernel_rfl) (by kernel_rfl) (by kernel_rfl) (fun _ _ _ h => h) (Or.inl ⟨by kernel_rfl, ?_⟩) (by assumption) ?_
  · intro w9 hSw; (try dsimp only at hSw); go_simp
  simp only [Act.put, List.getElem_toArray, List.getElem_cons_succ, List.getElem_cons_zero, List.setIfInBounds_toArray, List.set_cons_zero, List.set_cons_succ]
  refine wpAnyH_done (by kernel_rfl) ?_ _
  go_wp2_with fail
  refine (g1.out _ _ bD).mono ?_
  rintro e w1 ⟨rfl, rfl⟩
  go_wp2_with fail
  refine (qT.out _).mono ?_
  rintro e w1 ⟨rfl, rfl⟩
  go_wp2_with fail
  refine (need_yes 3 _).mono ?_
  rintro e w9 ⟨rfl, rfl⟩
  go_wp2_with fail
  refine (need_yes 4 _).mono ?_
  rintro e w9 ⟨rfl, rfl⟩
  go_wp2_with fail
  refine (g2.out _ _ bD).mono ?_
  rintro e w1 ⟨rfl, rfl⟩
  go_wp2_with fail
  refine (qN.out _).mono ?_
  rintro e w1 ⟨rfl, rfl⟩
  go_wp2_with fail
  refine (need_yes 5 _).mono ?_
  rintro e w9 ⟨rfl, rfl⟩
  go_wp2_with fail
  refine (g3.out _ _ bD).mono ?_
  rintro e w1 ⟨rfl, rfl⟩
  go_wp2_with fail
  refine wp_region_held_drew (S := fun w' => True) (by kernel_rfl) trivial (fun hHeld => ?_)
  refine wpAnyH_take (i := 0) (v := .int .i64 sm) rfl (by kernel_rfl) (by kernel_rfl) (by kernel_rfl) (fun _ _ _ h => h) (Or.inl ⟨by kernel_rfl, ?_⟩) (by assumption) ?_
  · intro w9 hSw; (try dsimp only at hSw); go_simp
  simp only [Act.put, List.getElem_toArray, List.getElem_cons_succ, List.getElem_cons_zero, List.setIfInBounds_toArray, List.set_cons_zero, List.set_cons_succ]
  refine wpAnyH_take (i := 1) (v := .slice (some ⟨b, off + P, none⟩) 10 (c - P)) rfl (by kernel_rfl) (by kernel_rfl) (by kernel_rfl) (fun _ _ _ h => h) (Or.inl ⟨by kernel_rfl, ?_⟩) (by assumption) ?_
  · intro w9 hSw; (try dsimp only at hSw); go_simp
  simp only [Act.put, List.getElem_toArray, List.getElem_cons_succ, List.getElem_cons_zero, List.setIfInBounds_toArray, List.set_cons_zero, List.set_cons_succ]
  refine wpAnyH_take (i := 2) (v := .slice (some ⟨b, off + P, none⟩) 6 (c - P)) rfl (by kernel_rfl) (by kernel_rfl) (by kernel_rfl) (fun _ _ _ h => h) (Or.inl ⟨by kernel_rfl, ?_⟩) (by assumption) ?_
  · intro w9 hSw; (try dsimp only at hSw); go_simp
  simp only [Act.put, List.getElem_toArray, List.getElem_cons_succ, List.getElem_cons_zero, List.setIfInBounds_toArray, List.set_cons_zero, List.set_cons_succ]
  refine wpAnyH_take (i := 3) (v := .slice (some ⟨b, off + A, none⟩) (n - A) (c - A)) rfl (by kernel_rfl) (by kernel_rfl) (by kernel_rfl) (fun _ _ _ h => h) (Or.inl ⟨by kernel_rfl, ?_⟩) (by assumption) ?_
  · intro w9 hSw; (try dsimp only at hSw); go_simp
  simp only [Act.put, List.getElem_toArray, List.getElem_cons_succ, List.getElem_cons_zero, List.setIfInBounds_toArray, List.set_cons_zero, List.set_cons_succ]
  refine wpAnyH_take (i := 4) (v := .int .i64 s) rfl (by kernel_rfl) (by kernel_rfl) (by kernel_rfl) (fun _ _ _ h => h) (Or.inl ⟨by kernel_rfl, ?_⟩) (by assumption) ?_
  · intro w9 hSw; (try dsimp only at hSw); go_simp
  simp only [Act.put, List.getElem_toArray, List.getElem_cons_succ, List.getElem_cons_zero, List.setIfInBounds_toArray, List.set_cons_zero, List.set_cons_succ]
  refine wpAnyH_take (i := 5) (v := .slice (some ⟨b, off + A, none⟩) s (c - A)) rfl (by kernel_rfl) (by kernel_rfl) (by kernel_rfl) (fun _ _ _ h => h) (Or.inl ⟨by kernel_rfl, ?_⟩) (by assumption) ?_
  · intro w9 hSw; (try dsimp only at hSw); go_simp
  simp only [Act.put, List.getElem_toArray, List.getElem_cons_succ, List.getElem_cons_zero, List.setIfInBounds_toArray, List.set_cons_zero, List.set_cons_succ]
  refine wpAnyH_ready (rs := [6]) (by kernel_rfl) (by simp) ?_
  refine AllReadyH.cons rfl (fun K hK => ?_) AllReadyH.nil
  go_simp
  refine (qS.out _ bD1).mono ?_
  rintro e w5 ⟨rfl, hb5⟩
  go_wp2_with fail
  refine hK.out _ _ trivial (fun hHeld6 => ?_)
  clear hK
  refine wpAnyH_take (i := 7) (v := .bool false) rfl (by kernel_rfl) (by kernel_rfl) (by kernel_rfl) (fun _ _ _ h => h) (Or.inl ⟨by kernel_rfl, ?_⟩) (by assumption) ?_
  · intro w9 hSw; (try dsimp only at hSw); go_simp
  simp only [Act.put, List.getElem_toArray, List.getElem_cons_succ, List.getElem_cons_zero, List.setIfInBounds_toArray, List.set_cons_zero, List.set_cons_succ]
  refine wpAnyH_ready (rs := [8]) (by kernel_rfl) (by simp) ?_
  refine AllReadyH.cons rfl (fun K hK => ?_) AllReadyH.nil
  go_simp
  refine (need_no 6 _).mono ?_
  rintro e w9 ⟨rfl, rfl⟩
  have bE : Below w.heap.size w w9 := bD1.trans (hb5.mono bD1.size)
  go_wp2_with fail
  exact ⟨rfl, rfl, bE⟩

set_option maxRecDepth 100000 in
set_option maxHeartbeats 2000000 in
theorem readRf_0 (b off n c : Nat) (zs : List Int) (P s : Nat) (num : Int) (w : World) (hl : zs.length = n) (hb : b < w.heap.size) (hc : ∀ i, i < n → w.cell? ⟨b, off + i, none⟩ = some (.int .u8 (zs[i]?.getD 0))) (hz : Byt zs)
    (hcn : n ≤ c) (hcm : c ≤ maxLen) (hn : n ≤ 1048576) (hP : P + 10 ≤ n) (hs : gnum zs P 2 = (s : Int)) (hnum : gnum zs (P + 2) 4 = num) (sm : Int) (hsm : gnum zs (P + 6) 4 = sm) (h3 : ¬ s = 0) (h3' : ¬ 1000 < s) (h4 : ¬ (n : Int) - (P : Int) - 10 < (s : Int)) (h5 : ¬ num = 0) (h5' : ¬ 1000000000 < num) (h6 : sm = crcI (cutL zs P 6 ++ cutL zs (P + 10) s)) :
    Calls Tryz.prog 117 #[.slice (some ⟨b, off, none⟩) n c, .int .i64 (P : Int)] w fun e w' => e = .returned (.tuple #[.agg #[.int .i64 num, .string (strOfNums (cutL zs (P + 10) s))], .int .i64 ((P : Int) + 10 + (s : Int))]) ∧ Below w.heap.size w w' := by
  unfold maxLen at hcm
  have HC : Hid (∀ w', Below w.heap.size w w' → ∀ i, i < n → w'.cell? ⟨b, off + i, none⟩ = some (.int .u8 (zs[i]?.getD 0))) := fun w' hb' i hi => (hb'.cell (p := ⟨b, off + i, none⟩) hb).trans (hc i hi)
  have HH : Hid (∀ w', Below w.heap.size w w' → Rd w' (some ⟨b, off + P, none⟩) (cutL zs P 10)) := fun w' hb' => rd_cut (Nat.lt_of_lt_of_le hb hb'.size) hz hl (HC.out w' hb') P 10 (by omega)
  have hl10 : (cutL zs P 10).length = 10 := cutL_len _ _ _ (by omega)
  have g1 : Hid (∀ w' cp, Below w.heap.size w w' → Calls Tryz.prog 132 #[.slice (some ⟨b, off + P, none⟩) 10 cp, .int .i64 0, .int .i64 2] w' fun e w'' => e = .returned (.tuple #[.int .i64 (s : Int), .bool true]) ∧ w'' = w') := fun w' cp hb' => by
    rw [← hs, show gnum zs P 2 = gnum (cutL zs P 10) 0 2 from (gnum_cut zs P 10 0 2 (by omega)).symm]; exact implGet_yes _ 10 cp _ 0 2 w' hl10 (HH.out w' hb') (by omega) (by omega) (by omega) (by omega)
  have g2 : Hid (∀ w' cp, Below w.heap.size w w' → Calls Tryz.prog 132 #[.slice (some ⟨b, off + P, none⟩) 10 cp, .int .i64 2, .int .i64 4] w' fun e w'' => e = .returned (.tuple #[.int .i64 num, .bool true]) ∧ w'' = w') := fun w' cp hb' => by
    rw [← hnum, show gnum zs (P + 2) 4 = gnum (cutL zs P 10) 2 4 from (gnum_cut zs P 10 2 4 (by omega)).symm]; exact implGet_yes _ 10 cp _ 2 4 w' hl10 (HH.out w' hb') (by omega) (by omega) (by omega) (by omega)
  have hnb := gnum4_bd zs hz (P + 2)
  rw [hnum] at hnb
  obtain ⟨A, hA⟩ : ∃ A : Nat, A = P + 10 := ⟨_, rfl⟩
  have a1 : (P : Int) + 10 = (A : Int) := by omega
  have aw1 : IntKind.i64.wrap (A : Int) = (A : Int) := wrap_i64_in _ (by omega) (by omega)
  have a2 : A - P = 10 := by omega
  have a3 : A ≤ n := by omega
  have a4 : A ≤ c := by omega
  have a5 : ¬ c < A := by omega
  have a6 : P ≤ A := by omega
  have a7 : ¬ c = P := by omega
  have a8 : ¬ A = P := by omega
  have t1 : (0 : Int) ≤ (P : Int) := by omega
  have t2 : (P : Int) ≤ (n : Int) := by omega
  have t3 : (10 : Int) ≤ (n : Int) - (P : Int) := by omega
  have bW0 : Below w.heap.size w (w.alloc (.cells #[.int .i64 0, .string ⟨#[]⟩] 71)) := (Below.refl _ _).alloc (Nat.le_refl _) _
  have bD : Below w.heap.size w (w.alloc (.cells #[.int .i64 0, .string ⟨#[]⟩] 71)).drew := bW0.drew
  have qT : Hid (∀ w', Calls Tryz.prog 100 #[.int .i64 (s : Int)] w' fun e w'' => e = .returned (.bool true) ∧ w'' = w') := fun w' => by
    have := textSizeOk_any (s : Int) w'
    rwa [show (decide ((1 : Int) ≤ (s : Int)) && decide ((s : Int) ≤ 1000)) = true by simp; omega] at this
  have qN : Hid (∀ w', Calls Tryz.prog 99 #[.int .i64 num] w' fun e w'' => e = .returned (.bool true) ∧ w'' = w') := fun w' => by
    have := seqOk_any num w'
    rwa [show (decide ((1 : Int) ≤ num) && decide (num ≤ 1000000000)) = true by simp; omega] at this
  have z1 : s ≤ n - A := by omega
  have z3 : (s : Int) ≤ ((n - A : Nat) : Int) := by omega
  have hcA : ¬ c = A := by omega
  have g3 : Hid (∀ w' cp, Below w.heap.size w w' → Calls Tryz.prog 132 #[.slice (some ⟨b, off + P, none⟩) 10 cp, .int .i64 6, .int .i64 4] w' fun e w'' => e = .returned (.tuple #[.int .i64 sm, .bool true]) ∧ w'' = w') := fun w' cp hb' => by
    rw [← hsm, show gnum zs (P + 6) 4 = gnum (cutL zs P 10) 6 4 from (gnum_cut zs P 10 6 4 (by omega)).symm]; exact implGet_yes _ 10 cp _ 6 4 w' hl10 (HH.out w' hb') (by omega) (by omega) (by omega) (by omega)
  obtain ⟨C, hC⟩ : ∃ C, C = crcI (cutL zs P 6 ++ cutL zs A s) := ⟨_, rfl⟩
  have qS : Hid (∀ w', Below w.heap.size w w' → Calls Tryz.prog 115 #[.slice (some ⟨b, off + P, none⟩) 6 (c - P), .slice (some ⟨b, off + A, none⟩) s (c - A)] w' fun e w'' => e = .returned (.int .i64 C) ∧ Below w'.heap.size w' w'') := fun w' hb' => by
    rw [hC]
    exact frameSum_any _ 6 (c - P) (cutL zs P 6) _ s (cutL zs A s) w' (cutL_len _ _ _ (by omega)) (rd_cut (Nat.lt_of_lt_of_le hb hb'.size) hz hl (HC.out w' hb') P 6 (by omega)) (src_cut hl (HC.out w' hb') A s (c - A) (by omega)) (cutL_len _ _ _ (by omega)) (byt_cutL zs hz _ _) (by omega) (by omega)
  have bD1 : Below w.heap.size w (w.alloc (.cells #[.int .i64 0, .string ⟨#[]⟩] 71)).drew.drew := bD.drew
  have hq : (sm == C) = true := by rw [hC, hA]; simpa using h6
  have x1 : (6 : Nat) ≤ c - P := by omega
  have x3 : ¬ (((c - P : Nat) : Int) < 6) := by omega
  have x4 : ¬ (((c - A : Nat) : Int) < (s : Int)) := by omega
  have x2 : s ≤ c - A := by omega
  obtain ⟨tx, htx⟩ : ∃ tx, tx = strOfNums (cutL zs A s) := ⟨_, rfl⟩
  have qV : Hid (∀ w', Below w.heap.size w w' → (convert 55 9 (.slice (some ⟨b, off + A, none⟩) s (c - A))).run Tryz.prog w' = .ok (.string tx) w') := fun w' hb' => by rw [htx]; exact cut_conv b off n (c - A) zs A s w' (HC.out w' hb') (by omega) hl
  obtain ⟨Z, hZ⟩ : ∃ Z : Nat, Z = A + s := ⟨_, rfl⟩
  have a9 : (A : Int) + (s : Int) = (Z : Int) := by omega
  have aw9 : IntKind.i64.wrap (Z : Int) = (Z : Int) := wrap_i64_in _ (by omega) (by omega)
  rw [← hA, ← htx, a1, a9]
  have hbox : (w.alloc (.cells #[.int .i64 0, .string ⟨#[]⟩] 71)).drew.drew.heap[w.heap.size]? = some (.cells #[.int .i64 0, .string ⟨#[]⟩] 71 (0, 0)) := heap_alloc_new w _
  have zlt : w.heap.size < (w.alloc (.cells #[.int .i64 0, .string ⟨#[]⟩] 71)).drew.drew.heap.size := by simp
  have HB : Hid (∀ w', Below (w.alloc (.cells #[.int .i64 0, .string ⟨#[]⟩] 71)).drew.drew.heap.size (w.alloc (.cells #[.int .i64 0, .string ⟨#[]⟩] 71)).drew.drew w' → w'.heap[w.heap.size]? = some (.cells #[.int .i64 0, .string ⟨#[]⟩] 71 (0, 0))) := fun w' h' => (h'.block _ zlt).trans hbox
  clear HC HH hl10 hc hl hz hs hnum hsm hA hC h6 htx hZ hbox zlt
  go_enter Tryz.func117, Tryz.ntmps117
  go_wp2_with fail
  refine (need_yes 1 _).mono ?_
  rintro e w9 ⟨rfl, rfl⟩
  go_wp2_with fail
  refine (need_yes 2 _).mono ?_
  rintro e w9 ⟨rfl, rfl⟩
  go_wp2_with fail
  refine wp_region_held_drew (S := fun w' => True) (by kernel_rfl) trivial (fun hHeld => ?_)
  refine wpAnyH_take (i := 0) (v := .slice (some ⟨b, off, none⟩) n c) rfl (by kernel_rfl) (by kernel_rfl) (by kernel_rfl) (fun _ _ _ h => h) (Or.inl ⟨by kernel_rfl, ?_⟩) (by assumption) ?_
  · intro w9 hSw; (try dsimp only at hSw); go_simp
  simp only [Act.put, List.getElem_toArray, List.getElem_cons_succ, List.getElem_cons_zero, List.setIfInBounds_toArray, List.set_cons_zero, List.set_cons_succ]
  refine wpAnyH_take (i := 1) (v := .int .i64 P) rfl (by kernel_rfl) (by kernel_rfl) (by kernel_rfl) (fun _ _ _ h => h) (Or.inl ⟨by kernel_rfl, ?_⟩) (by assumption) ?_
  · intro w9 hSw; (try dsimp only at hSw); go_simp
  simp only [Act.put, List.getElem_toArray, List.getElem_cons_succ, List.getElem_cons_zero, List.setIfInBounds_toArray, List.set_cons_zero, List.set_cons_succ]
  refine wpAnyH_take (i := 2) (v := .int .i64 P) rfl (by kernel_rfl) (by kernel_rfl) (by kernel_rfl) (fun _ _ _ h => h) (Or.inl ⟨by kernel_rfl, ?_⟩) (by assumption) ?_
  · intro w9 hSw; (try dsimp only at hSw); go_simp
  simp only [Act.put, List.getElem_toArray, List.getElem_cons_succ, List.getElem_cons_zero, List.setIfInBounds_toArray, List.set_cons_zero, List.set_cons_succ]
  refine wpAnyH_take (i := 3) (v := .int .i64 A) rfl (by kernel_rfl) (by kernel_rfl) (by kernel_rfl) (fun _ _ _ h => h) (Or.inl ⟨by kernel_rfl, ?_⟩) (by assumption) ?_
  · intro w9 hSw; (try dsimp only at hSw); go_simp
  simp only [Act.put, List.getElem_toArray, List.getElem_cons_succ, List.getElem_cons_zero, List.setIfInBounds_toArray, List.set_cons_zero, List.set_cons_succ]
  refine wpAnyH_take (i := 4) (v := .slice (some ⟨b, off + P, none⟩) 10 (c - P)) rfl (by kernel_rfl) (by kernel_rfl) (by kernel_rfl) (fun _ _ _ h => h) (Or.inl ⟨by kernel_rfl, ?_⟩) (by assumption) ?_
  · intro w9 hSw; (try dsimp only at hSw); go_simp
  simp only [Act.put, List.getElem_toArray, List.getElem_cons_succ, List.getElem_cons_zero, List.setIfInBounds_toArray, List.set_cons_zero, List.set_cons_succ]
  refine wpAnyH_take (i := 5) (v := .slice (some ⟨b, off, none⟩) n c) rfl (by kernel_rfl) (by kernel_rfl) (by kernel_rfl) (fun _ _ _ h => h) (Or.inl ⟨by kernel_rfl, ?_⟩) (by assumption) ?_
  · intro w9 hSw; (try dsimp only at hSw); go_simp
  simp only [Act.put, List.getElem_toArray, List.getElem_cons_succ, List.getElem_cons_zero, List.setIfInBounds_toArray, List.set_cons_zero, List.set_cons_succ]
  refine wpAnyH_take (i := 6) (v := .int .i64 P) rfl (by kernel_rfl) (by kernel_rfl) (by kernel_rfl) (fun _ _ _ h => h) (Or.inl ⟨by kernel_rfl, ?_⟩) (by assumption) ?_
  · intro w9 hSw; (try dsimp only at hSw); go_simp
  simp only [Act.put, List.getElem_toArray, List.getElem_cons_succ, List.getElem_cons_zero, List.setIfInBounds_toArray, List.set_cons_zero, List.set_cons_succ]
  refine wpAnyH_take (i := 7) (v := .int .i64 A) rfl (by kernel_rfl) (by kernel_rfl) (by kernel_rfl) (fun _ _ _ h => h) (Or.inl ⟨by kernel_rfl, ?_⟩) (by assumption) ?_
  · intro w9 hSw; (try dsimp only at hSw); go_simp
  simp only [Act.put, List.getElem_toArray, List.getElem_cons_succ, List.getElem_cons_zero, List.setIfInBounds_toArray, List.set_cons_zero, List.set_cons_succ]
  refine wpAnyH_take (i := 8) (v := .slice (some ⟨b, off + A, none⟩) (n - A) (c - A)) rfl (by kernel_rfl) (by kernel_rfl) (by kernel_rfl) (fun _ _ _ h => h) (Or.inl ⟨by kernel_rfl, ?_⟩) (by assumption) ?_
  · intro w9 hSw; (try dsimp only at hSw); go_simp
  simp only [Act.put, List.getElem_toArray, List.getElem_cons_succ, List.getElem_cons_zero, List.setIfInBounds_toArray, List.set_cons_zero, List.set_cons_succ]
  refine wpAnyH_take (i := 9) (v := .slice (some ⟨b, off + P, none⟩) 10 (c - P)) rfl (by kernel_rfl) (by kernel_rfl) (by kernel_rfl) (fun _ _ _ h => h) (Or.inl ⟨by kernel_rfl, ?_⟩) (by assumption) ?_
  · intro w9 hSw; (try dsimp only at hSw); go_simp
  simp only [Act.put, List.getElem_toArray, List.getElem_cons_succ, List.getElem_cons_zero, List.setIfInBounds_toArray, List.set_cons_zero, List.set_cons_succ]
  refine wpAnyH_take (i := 10) (v := .slice (some ⟨b, off + A, none⟩) (n - A) (c - A)) rfl (by kernel_rfl) (by kernel_rfl) (by kernel_rfl) (fun _ _ _ h => h) (Or.inl ⟨by kernel_rfl, ?_⟩) (by assumption) ?_
  · intro w9 hSw; (try dsimp only at hSw); go_simp
  simp only [Act.put, List.getElem_toArray, List.getElem_cons_succ, List.getElem_cons_zero, List.setIfInBounds_toArray, List.set_cons_zero, List.set_cons_succ]
  refine wpAnyH_done (by kernel_rfl) ?_ _
  go_wp2_with fail
  refine (g1.out _ _ bD).mono ?_
  rintro e w1 ⟨rfl, rfl⟩
  go_wp2_with fail
  refine (qT.out _).mono ?_
  rintro e w1 ⟨rfl, rfl⟩
  go_wp2_with fail
  refine (need_yes 3 _).mono ?_
  rintro e w9 ⟨rfl, rfl⟩
  go_wp2_with fail
  refine (need_yes 4 _).mono ?_
  rintro e w9 ⟨rfl, rfl⟩
  go_wp2_with fail
  refine (g2.out _ _ bD).mono ?_
  rintro e w1 ⟨rfl, rfl⟩
  go_wp2_with fail
  refine (qN.out _).mono ?_
  rintro e w1 ⟨rfl, rfl⟩
  go_wp2_with fail
  refine (need_yes 5 _).mono ?_
  rintro e w9 ⟨rfl, rfl⟩
  go_wp2_with fail
  refine (g3.out _ _ bD).mono ?_
  rintro e w1 ⟨rfl, rfl⟩
  go_wp2_with fail
  refine wp_region_held_drew (S := fun w' => True) (by kernel_rfl) trivial (fun hHeld => ?_)
  refine wpAnyH_take (i := 0) (v := .int .i64 sm) rfl (by kernel_rfl) (by kernel_rfl) (by kernel_rfl) (fun _ _ _ h => h) (Or.inl ⟨by kernel_rfl, ?_⟩) (by assumption) ?_
  · intro w9 hSw; (try dsimp only at hSw); go_simp
  simp only [Act.put, List.getElem_toArray, List.getElem_cons_succ, List.getElem_cons_zero, List.setIfInBounds_toArray, List.set_cons_zero, List.set_cons_succ]
  refine wpAnyH_take (i := 1) (v := .slice (some ⟨b, off + P, none⟩) 10 (c - P)) rfl (by kernel_rfl) (by kernel_rfl) (by kernel_rfl) (fun _ _ _ h => h) (Or.inl ⟨by kernel_rfl, ?_⟩) (by assumption) ?_
  · intro w9 hSw; (try dsimp only at hSw); go_simp
  simp only [Act.put, List.getElem_toArray, List.getElem_cons_succ, List.getElem_cons_zero, List.setIfInBounds_toArray, List.set_cons_zero, List.set_cons_succ]
  refine wpAnyH_take (i := 2) (v := .slice (some ⟨b, off + P, none⟩) 6 (c - P)) rfl (by kernel_rfl) (by kernel_rfl) (by kernel_rfl) (fun _ _ _ h => h) (Or.inl ⟨by kernel_rfl, ?_⟩) (by assumption) ?_
  · intro w9 hSw; (try dsimp only at hSw); go_simp
  simp only [Act.put, List.getElem_toArray, List.getElem_cons_succ, List.getElem_cons_zero, List.setIfInBounds_toArray, List.set_cons_zero, List.set_cons_succ]
  refine wpAnyH_take (i := 3) (v := .slice (some ⟨b, off + A, none⟩) (n - A) (c - A)) rfl (by kernel_rfl) (by kernel_rfl) (by kernel_rfl) (fun _ _ _ h => h) (Or.inl ⟨by kernel_rfl, ?_⟩) (by assumption) ?_
  · intro w9 hSw; (try dsimp only at hSw); go_simp
  simp only [Act.put, List.getElem_toArray, List.getElem_cons_succ, List.getElem_cons_zero, List.setIfInBounds_toArray, List.set_cons_zero, List.set_cons_succ]
  refine wpAnyH_take (i := 4) (v := .int .i64 s) rfl (by kernel_rfl) (by kernel_rfl) (by kernel_rfl) (fun _ _ _ h => h) (Or.inl ⟨by kernel_rfl, ?_⟩) (by assumption) ?_
  · intro w9 hSw; (try dsimp only at hSw); go_simp
  simp only [Act.put, List.getElem_toArray, List.getElem_cons_succ, List.getElem_cons_zero, List.setIfInBounds_toArray, List.set_cons_zero, List.set_cons_succ]
  refine wpAnyH_take (i := 5) (v := .slice (some ⟨b, off + A, none⟩) s (c - A)) rfl (by kernel_rfl) (by kernel_rfl) (by kernel_rfl) (fun _ _ _ h => h) (Or.inl ⟨by kernel_rfl, ?_⟩) (by assumption) ?_
  · intro w9 hSw; (try dsimp only at hSw); go_simp
  simp only [Act.put, List.getElem_toArray, List.getElem_cons_succ, List.getElem_cons_zero, List.setIfInBounds_toArray, List.set_cons_zero, List.set_cons_succ]
  refine wpAnyH_ready (rs := [6]) (by kernel_rfl) (by simp) ?_
  refine AllReadyH.cons rfl (fun K hK => ?_) AllReadyH.nil
  go_simp
  refine (qS.out _ bD1).mono ?_
  rintro e w5 ⟨rfl, hb5⟩
  go_wp2_with fail
  refine hK.out _ _ trivial (fun hHeld6 => ?_)
  clear hK
  refine wpAnyH_take (i := 7) (v := .bool true) rfl (by kernel_rfl) (by kernel_rfl) (by kernel_rfl) (fun _ _ _ h => h) (Or.inl ⟨by kernel_rfl, ?_⟩) (by assumption) ?_
  · intro w9 hSw; (try dsimp only at hSw); go_simp
  simp only [Act.put, List.getElem_toArray, List.getElem_cons_succ, List.getElem_cons_zero, List.setIfInBounds_toArray, List.set_cons_zero, List.set_cons_succ]
  refine wpAnyH_ready (rs := [8]) (by kernel_rfl) (by simp) ?_
  refine AllReadyH.cons rfl (fun K hK => ?_) AllReadyH.nil
  go_simp
  refine (need_yes 6 _).mono ?_
  rintro e w9 ⟨rfl, rfl⟩
  go_wp2_with fail
  have hA5 := HB.out w9 hb5
  have b5 : Below w.heap.size w w9 := bD1.trans (hb5.mono bD1.size)
  have cV := qV.out w9 b5
  have u0 : w9.cell? ⟨w.heap.size, 0, none⟩ = some (.int .i64 0) := box_cell hA5 rfl
  have u1 : w9.cell? ⟨w.heap.size, 1, none⟩ = some (.string ⟨#[]⟩) := box_cell hA5 rfl
  have f0 : w9.frozen? ⟨w.heap.size, 0, none⟩ = false := box_frozen hA5
  have f1 : w9.frozen? ⟨w.heap.size, 1, none⟩ = false := box_frozen hA5
  have r0 : (w9.setCell ⟨w.heap.size, 0, none⟩ (.int .i64 num)).cell? ⟨w.heap.size, 0, none⟩ = some (.int .i64 num) := box_cell (box_set (.int .i64 num) hA5) rfl
  have r1 : ((w9.setCell ⟨w.heap.size, 0, none⟩ (.int .i64 num)).setCell ⟨w.heap.size, 1, none⟩ (.string tx)).cell? ⟨w.heap.size, 1, none⟩ = some (.string tx) := box_cell (box_set (.string tx) (box_set (.int .i64 num) hA5)) rfl
  have hws : w.heap.size < w9.heap.size := lt_heap hA5
  have bS : Below w.heap.size w ((w9.setCell ⟨w.heap.size, 0, none⟩ (.int .i64 num)).setCell ⟨w.heap.size, 1, none⟩ (.string tx)) := (b5.setCell (Nat.le_refl _) _).setCell (Nat.le_refl _) _
  clear hA5 HB qV hb5
  refine hK.out _ _ trivial (fun hHeld8 => ?_)
  clear hK
  refine wpAnyH_done (by kernel_rfl) ?_ _
  go_wp2
  (try simp only [Exit.inBlock, Exit.then])
  refine bodyPost_ret (by simp [results, Tryz.results117, go_sem, r0, r1]; try rfl) rfl ?_
  exact ⟨rfl, bS⟩

end Go.Proofs.YtkfmpfbhhmmllaaGreat

/- CatchI: The deferred closure of FrameRead: of a frame that gives up with a fault it makes the code; of a frame that returns it does nothing. -/
namespace Go.Proofs.YtkfmpfbhhmmllaaGreat
open Go.RowKit
set_option linter.unusedVariables false
set_option maxRecDepth 100000

theorem assert_fault (k : Int) (w : World) : (Instr.typeAssert (.iface 146 (.int .i64 k)) 20 146 true).run Tryz.prog w = .ok (.tuple #[.int .i64 k, .bool true]) w := by
  kernel_rfl

theorem assert_nil (w : World) : (Instr.typeAssert .nilIface 20 146 true).run Tryz.prog w = .ok (.tuple #[.int .i64 0, .bool false]) w := by
  kernel_rfl

set_option maxHeartbeats 1000000 in
theorem catch_panicking (p : Addr) (x k : Int) (older : List PanicEntry) (w : World) (hc : w.cell? p = some (.int .i64 x)) (hz : w.frozen? p = false) :
    CallsD Tryz.prog 116 #[.pointer (some p)] (.panicking ({ v := .iface 146 (.int .i64 k), recovered := false } :: older)) w fun e u' w' =>
      e = .returned (.tuple #[]) ∧ u' = .panicking ({ v := .iface 146 (.int .i64 k), recovered := true } :: older) ∧ w' = w.setCell p (.int .i64 k) := by
  refine callsD_of_wpS Tryz.func116 rfl fun c₀ cs hu => ?_
  apply wpS_seq
  apply wpS_region
  simp [wpOpsS, go_sem, recoverD, hu, Tryz.ntmps116, Exit.thenS, assert_fault]
  apply wpS_seq
  apply wpS_region
  simp [wpOpsS, go_sem, Exit.thenS]
  refine wpS_cond (t := true) (by simp [Act.eval, Array.replicate]) ?_
  simp only [if_true]
  apply wpS_region
  simp [wpOpsS, go_sem, hc, hz, bodyPostS, results, Tryz.results116, Array.replicate]

set_option maxHeartbeats 1000000 in
theorem catch_idle (p : Addr) (w : World) :
    CallsD Tryz.prog 116 #[.pointer (some p)] .returning w fun e u' w' => e = .returned (.tuple #[]) ∧ u' = .returning ∧ w' = w := by
  refine callsD_of_wpS Tryz.func116 rfl fun c₀ cs hu => ?_
  apply wpS_seq
  apply wpS_region
  simp [wpOpsS, go_sem, recoverD, hu, Tryz.ntmps116, Exit.thenS, assert_nil]
  apply wpS_seq
  apply wpS_region
  simp [wpOpsS, go_sem, Exit.thenS]
  refine wpS_cond (t := false) (by simp [Act.eval, Array.replicate]) ?_
  simp only [Bool.false_eq_true, if_false]
  refine wpS_of_wp (wp_skip ?_)
  cases c₀
  simp_all [bodyPostS, results, Tryz.results116]

end Go.Proofs.YtkfmpfbhhmmllaaGreat

/- RfI: FrameRead of the program: what readFrame gives up with becomes the code. -/
namespace Go.Proofs.YtkfmpfbhhmmllaaGreat
open Go.RowKit
set_option linter.unusedVariables false
set_option maxRecDepth 100000
set_option linter.unusedSimpArgs false

set_option maxRecDepth 100000 in
set_option maxHeartbeats 2000000 in
theorem implRf_pan (x : Value) (p k : Int) (w : World) (h : ∀ w', Below w.heap.size w w' → Calls Tryz.prog 117 #[x, .int .i64 p] w' fun e w'' => e = .panicked [{ v := .iface 146 (.int .i64 k), recovered := false }] ∧ Below w'.heap.size w' w'') :
    Calls Tryz.prog 107 #[x, .int .i64 p] w fun e w' => e = .returned (.tuple #[.agg #[.int .i64 0, .string ⟨#[]⟩], .int .i64 0, .int .i64 k]) ∧ Below w.heap.size w w' := by
  have hmf : ∀ (fn : Fn) (first cap : Array Value) (w : World), (Instr.makeFunc fn first cap).run Tryz.prog w = .ok (.func fn first cap) w := fun _ _ _ _ => rfl
  have q : Hid (∀ w', Below w.heap.size w w' → Calls Tryz.prog 117 #[x, .int .i64 p] w' fun e w'' => e = .panicked [{ v := .iface 146 (.int .i64 k), recovered := false }] ∧ Below w'.heap.size w' w'') := h
  clear h
  obtain ⟨W, hW⟩ : ∃ W, W = (w.alloc (.cells #[.int .i64 0, .string ⟨#[]⟩] 71)).alloc (.cells #[.int .i64 0] 3) := ⟨_, rfl⟩
  have bW : Below w.heap.size w W := by rw [hW]; exact ((Below.refl _ _).alloc (Nat.le_refl _) _).alloc (by simp) _
  have hA : W.heap[w.heap.size]? = some (.cells #[.int .i64 0, .string ⟨#[]⟩] 71 (0, 0)) := by rw [hW]; exact (heap_alloc_old _ _ (by simp)).trans (heap_alloc_new w _)
  have hB : W.heap[w.heap.size + 1]? = some (.cells #[.int .i64 0] 3 (0, 0)) := by
    have h9 := heap_alloc_new (w.alloc (.cells #[.int .i64 0, .string ⟨#[]⟩] 71)) (.cells #[.int .i64 0] 3)
    rw [hW]; simpa using h9
  have HW : Hid (W = (w.alloc (.cells #[.int .i64 0, .string ⟨#[]⟩] 71)).alloc (.cells #[.int .i64 0] 3)) := hW
  have zA : w.heap.size < W.heap.size := lt_heap hA
  have zB : w.heap.size + 1 < W.heap.size := lt_heap hB
  clear hW
  go_enter_defers Tryz.func107, Tryz.ntmps107
  go_wp2_with fail
  rw [← HW.out]
  refine (q.out _ bW).mono ?_
  rintro e w1 ⟨rfl, hb1⟩
  have b1 := bW.trans (hb1.mono bW.size)
  have hA1 := (hb1.block _ zA).trans hA
  have hB1 := (hb1.block _ zB).trans hB
  have hne : ¬ w.heap.size = w.heap.size + 1 := by omega
  have hA2 := (box_other (w := w1) (b := w.heap.size + 1) (j := 0) (.int .i64 k) (k := w.heap.size) (by omega)).trans hA1
  have hB2 := box_set (w := w1) (j := 0) (.int .i64 k) hB1
  have e0 : (w1.setCell ⟨w.heap.size + 1, 0, none⟩ (.int .i64 k)).cell? ⟨w.heap.size, 0, none⟩ = some (.int .i64 0) := box_cell hA2 rfl
  have e1 : (w1.setCell ⟨w.heap.size + 1, 0, none⟩ (.int .i64 k)).cell? ⟨w.heap.size, 1, none⟩ = some (.string ⟨#[]⟩) := box_cell hA2 rfl
  have e2 : (w1.setCell ⟨w.heap.size + 1, 0, none⟩ (.int .i64 k)).cell? ⟨w.heap.size + 1, 0, none⟩ = some (.int .i64 k) := box_cell hB2 rfl
  have bE : Below w.heap.size w (w1.setCell ⟨w.heap.size + 1, 0, none⟩ (.int .i64 k)) := b1.setCell (by show w.heap.size ≤ w.heap.size + 1; omega) _
  go_wp2_with fail
  refine leaves_cons (f := 116) (args := #[.pointer (some ⟨w.heap.size + 1, 0, none⟩)]) (by simp) (by simp [go_sem]) ?_
  refine (catch_panicking ⟨w.heap.size + 1, 0, none⟩ 0 k [] _ (box_cell hB1 rfl) (box_frozen hB1)).mono ?_
  rintro e u' w'' ⟨rfl, rfl, rfl⟩
  simp [Leaves, settle, results, Tryz.results107, go_sem, e0, e1, e2]
  exact bE

set_option maxRecDepth 100000 in
set_option maxHeartbeats 2000000 in
theorem implRf_ret (x : Value) (p x0 : Int) (x1 : ByteArray) (nx : Int) (w : World) (h : ∀ w', Below w.heap.size w w' → Calls Tryz.prog 117 #[x, .int .i64 p] w' fun e w'' => e = .returned (.tuple #[.agg #[.int .i64 x0, .string x1], .int .i64 nx]) ∧ Below w'.heap.size w' w'') :
    Calls Tryz.prog 107 #[x, .int .i64 p] w fun e w' => e = .returned (.tuple #[.agg #[.int .i64 x0, .string x1], .int .i64 nx, .int .i64 0]) ∧ Below w.heap.size w w' := by
  have hmf : ∀ (fn : Fn) (first cap : Array Value) (w : World), (Instr.makeFunc fn first cap).run Tryz.prog w = .ok (.func fn first cap) w := fun _ _ _ _ => rfl
  have q : Hid (∀ w', Below w.heap.size w w' → Calls Tryz.prog 117 #[x, .int .i64 p] w' fun e w'' => e = .returned (.tuple #[.agg #[.int .i64 x0, .string x1], .int .i64 nx]) ∧ Below w'.heap.size w' w'') := h
  clear h
  obtain ⟨W, hW⟩ : ∃ W, W = (w.alloc (.cells #[.int .i64 0, .string ⟨#[]⟩] 71)).alloc (.cells #[.int .i64 0] 3) := ⟨_, rfl⟩
  have bW : Below w.heap.size w W := by rw [hW]; exact ((Below.refl _ _).alloc (Nat.le_refl _) _).alloc (by simp) _
  have hA : W.heap[w.heap.size]? = some (.cells #[.int .i64 0, .string ⟨#[]⟩] 71 (0, 0)) := by rw [hW]; exact (heap_alloc_old _ _ (by simp)).trans (heap_alloc_new w _)
  have hB : W.heap[w.heap.size + 1]? = some (.cells #[.int .i64 0] 3 (0, 0)) := by
    have h9 := heap_alloc_new (w.alloc (.cells #[.int .i64 0, .string ⟨#[]⟩] 71)) (.cells #[.int .i64 0] 3)
    rw [hW]; simpa using h9
  have HW : Hid (W = (w.alloc (.cells #[.int .i64 0, .string ⟨#[]⟩] 71)).alloc (.cells #[.int .i64 0] 3)) := hW
  have zA : w.heap.size < W.heap.size := lt_heap hA
  have zB : w.heap.size + 1 < W.heap.size := lt_heap hB
  clear hW
  go_enter_defers Tryz.func107, Tryz.ntmps107
  go_wp2_with fail
  rw [← HW.out]
  refine (q.out _ bW).mono ?_
  rintro e w1 ⟨rfl, hb1⟩
  have b1 := bW.trans (hb1.mono bW.size)
  have hA1 := (hb1.block _ zA).trans hA
  have hB1 := (hb1.block _ zB).trans hB
  have u0 : w1.cell? ⟨w.heap.size, 0, none⟩ = some (.int .i64 0) := box_cell hA1 rfl
  have u1 : w1.cell? ⟨w.heap.size, 1, none⟩ = some (.string ⟨#[]⟩) := box_cell hA1 rfl
  have f0 : w1.frozen? ⟨w.heap.size, 0, none⟩ = false := box_frozen hA1
  have f1 : w1.frozen? ⟨w.heap.size, 1, none⟩ = false := box_frozen hA1
  have u2 : w1.cell? ⟨w.heap.size + 1, 0, none⟩ = some (.int .i64 0) := box_cell hB1 rfl
  have f2 : w1.frozen? ⟨w.heap.size + 1, 0, none⟩ = false := box_frozen hB1
  have s1 := box_set (w := w1) (j := 0) (.int .i64 x0) hA1
  have s2 := box_set (j := 1) (.string x1) s1
  have s3 := box_set (j := 0) (.int .i64 x0) s2
  have s4 := box_set (j := 1) (.string x1) s3
  have s5 := (box_other (b := w.heap.size + 1) (j := 0) (.int .i64 0) (k := w.heap.size) (by omega)).trans s4
  have o1 := (box_other (w := w1) (b := w.heap.size) (j := 0) (.int .i64 x0) (k := w.heap.size + 1) (by omega)).trans hB1
  have o2 := (box_other (b := w.heap.size) (j := 1) (.string x1) (k := w.heap.size + 1) (by omega)).trans o1
  have o3 := (box_other (b := w.heap.size) (j := 0) (.int .i64 x0) (k := w.heap.size + 1) (by omega)).trans o2
  have o4 := (box_other (b := w.heap.size) (j := 1) (.string x1) (k := w.heap.size + 1) (by omega)).trans o3
  have o5 := box_set (j := 0) (.int .i64 0) o4
  have bE : Below w.heap.size w (((((w1.setCell ⟨w.heap.size, 0, none⟩ (.int .i64 x0)).setCell ⟨w.heap.size, 1, none⟩ (.string x1)).setCell ⟨w.heap.size, 0, none⟩ (.int .i64 x0)).setCell ⟨w.heap.size, 1, none⟩ (.string x1)).setCell ⟨w.heap.size + 1, 0, none⟩ (.int .i64 0)) :=
    ((((b1.setCell (Nat.le_refl _) _).setCell (Nat.le_refl _) _).setCell (Nat.le_refl _) _).setCell (Nat.le_refl _) _).setCell (by show w.heap.size ≤ w.heap.size + 1; omega) _
  have E1 : Hid _ := s5
  have E2 : Hid _ := o5
  have BE : Hid (Below w.heap.size w (((((w1.setCell ⟨w.heap.size, 0, none⟩ (.int .i64 x0)).setCell ⟨w.heap.size, 1, none⟩ (.string x1)).setCell ⟨w.heap.size, 0, none⟩ (.int .i64 x0)).setCell ⟨w.heap.size, 1, none⟩ (.string x1)).setCell ⟨w.heap.size + 1, 0, none⟩ (.int .i64 0))) := bE
  clear s1 s2 s3 s4 s5 o1 o2 o3 o4 o5 bE
  go_wp2
  refine leaves_cons (f := 116) (args := #[.pointer (some ⟨w.heap.size + 1, 0, none⟩)]) (by simp) (by simp [go_sem]) ?_
  refine (catch_idle ⟨w.heap.size + 1, 0, none⟩ _).mono ?_
  rintro e u' w'' ⟨rfl, rfl, hw''⟩
  rw [hw'']
  obtain ⟨WE, hWE⟩ : ∃ WE, WE = ((((w1.setCell ⟨w.heap.size, 0, none⟩ (.int .i64 x0)).setCell ⟨w.heap.size, 1, none⟩ (.string x1)).setCell ⟨w.heap.size, 0, none⟩ (.int .i64 x0)).setCell ⟨w.heap.size, 1, none⟩ (.string x1)).setCell ⟨w.heap.size + 1, 0, none⟩ (.int .i64 0) := ⟨_, rfl⟩
  have k1 := E1.out
  have k2 := E2.out
  have k3 := BE.out
  rw [← hWE] at k1 k2 k3 ⊢
  have c0 : WE.cell? ⟨w.heap.size, 0, none⟩ = some (.int .i64 x0) := box_cell k1 rfl
  have c1 : WE.cell? ⟨w.heap.size, 1, none⟩ = some (.string x1) := box_cell k1 rfl
  have c2 : WE.cell? ⟨w.heap.size + 1, 0, none⟩ = some (.int .i64 0) := box_cell k2 rfl
  simp [Leaves, settle, results, Tryz.results107, go_sem, c0, c1, c2]
  exact k3

end Go.Proofs.YtkfmpfbhhmmllaaGreat

/- RfAI: FrameRead of the program answers frAns. -/
namespace Go.Proofs.YtkfmpfbhhmmllaaGreat
open Go.RowKit
set_option linter.unusedVariables false
set_option maxRecDepth 100000

theorem rf_impl (v : Value) (zs : List Int) (p : Int) (w : World) (h : Reads (.sl .u8) w [v] zs) (hn : zs.length ≤ 1048576) (hp1 : -9223372036854775808 ≤ p) (hp2 : p ≤ 9223372036854775807) :
    Calls Tryz.prog 107 #[v, .int .i64 p] w fun e w' => e = .returned (.tuple #[.agg #[.int .i64 (frAns zs p).1, .string (frAns zs p).2.1], .int .i64 (frAns zs p).2.2.1, .int .i64 (frAns zs p).2.2.2]) ∧ Below w.heap.size w w' := by
  obtain ⟨a, c, hv, hcn, hcm⟩ := reads_val h
  have hv' : v = .slice a zs.length c := hv
  subst hv'
  obtain ⟨_, hrd, _, _⟩ := reads_bytes h
  by_cases h1 : p < 0
  · have e : frAns zs p = (0, ByteArray.empty, 0, 1) := by unfold frAns; rw [if_pos (by omega)]
    rw [e]; exact implRf_pan _ p 1 w fun w' hb' => readRf_near a _ c p w' hn hp1 hp2 1 (.inl ⟨h1, rfl⟩)
  by_cases h2 : (zs.length : Int) < p
  · have e : frAns zs p = (0, ByteArray.empty, 0, 1) := by unfold frAns; rw [if_pos (by omega)]
    rw [e]; exact implRf_pan _ p 1 w fun w' hb' => readRf_near a _ c p w' hn hp1 hp2 1 (.inr (.inl ⟨h1, h2, rfl⟩))
  by_cases h3 : (zs.length : Int) - p < 10
  · have e : frAns zs p = (0, ByteArray.empty, 0, 2) := by unfold frAns; rw [if_neg (by omega), if_pos h3]
    rw [e]; exact implRf_pan _ p 2 w fun w' hb' => readRf_near a _ c p w' hn hp1 hp2 2 (.inr (.inr ⟨h1, h2, h3, rfl⟩))
  obtain ⟨P, rfl⟩ := Int.eq_ofNat_of_zero_le (show 0 ≤ p by omega)
  have hne : zs ≠ [] := by intro h9; subst h9; simp at h3; omega
  obtain ⟨b, off, rfl, hb, hc⟩ := hrd.2.resolve_left hne
  have hz : Byt zs := hrd.1
  have hs := gnum2_bd zs hz P
  obtain ⟨s, hs'⟩ := Int.eq_ofNat_of_zero_le hs.1
  obtain ⟨num, hnum⟩ : ∃ num, gnum zs (P + 2) 4 = num := ⟨_, rfl⟩
  obtain ⟨sm, hsm⟩ : ∃ sm, gnum zs (P + 6) 4 = sm := ⟨_, rfl⟩
  have eP : ((P : Int)).toNat = P := by omega
  have es : ((s : Int)).toNat = s := by omega
  have HC : ∀ w', Below w.heap.size w w' → ∀ i, i < zs.length → w'.cell? ⟨b, off + i, none⟩ = some (.int .u8 (zs[i]?.getD 0)) := fun w' hb' i hi => (hb'.cell (p := ⟨b, off + i, none⟩) hb).trans (hc i hi)
  have HB : ∀ w', Below w.heap.size w w' → b < w'.heap.size := fun w' hb' => Nat.lt_of_lt_of_le hb hb'.size
  have hP : P + 10 ≤ zs.length := by omega
  by_cases h4 : s = 0 ∨ 1000 < s
  · have e : frAns zs (P : Int) = (0, ByteArray.empty, 0, 3) := by
      unfold frAns; rw [eP, hs', if_neg (by omega), if_neg (by omega), if_pos (by omega)]
    rw [e]; exact implRf_pan _ _ 3 w fun w' hb' => readRf_3 b off _ c zs P s num w' rfl (HB w' hb') (HC w' hb') hz hcn hcm hn hP hs' hnum h4
  by_cases h5 : (zs.length : Int) - (P : Int) - 10 < (s : Int)
  · have e : frAns zs (P : Int) = (0, ByteArray.empty, 0, 4) := by
      unfold frAns; rw [eP, hs', if_neg (by omega), if_neg (by omega), if_neg (by omega), if_pos h5]
    rw [e]; exact implRf_pan _ _ 4 w fun w' hb' => readRf_4 b off _ c zs P s num w' rfl (HB w' hb') (HC w' hb') hz hcn hcm hn hP hs' hnum (by omega) (by omega) h5
  by_cases h6 : num = 0 ∨ 1000000000 < num
  · have e : frAns zs (P : Int) = (0, ByteArray.empty, 0, 5) := by
      unfold frAns; rw [eP, hs', hnum, if_neg (by omega), if_neg (by omega), if_neg (by omega), if_neg h5, if_pos h6]
    rw [e]; exact implRf_pan _ _ 5 w fun w' hb' => readRf_5 b off _ c zs P s num w' rfl (HB w' hb') (HC w' hb') hz hcn hcm hn hP hs' hnum (by omega) (by omega) h5 h6
  by_cases h7 : sm = crcI (cutL zs P 6 ++ cutL zs (P + 10) s)
  · have e : frAns zs (P : Int) = (num, strOfNums (cutL zs (P + 10) s), (P : Int) + 10 + (s : Int), 0) := by
      unfold frAns; rw [eP, hs', hnum, hsm, es, if_neg (by omega), if_neg (by omega), if_neg (by omega), if_neg h5, if_neg h6, if_pos h7]
    rw [e]; exact implRf_ret _ _ _ _ _ w fun w' hb' => readRf_0 b off _ c zs P s num w' rfl (HB w' hb') (HC w' hb') hz hcn hcm hn hP hs' hnum sm hsm (by omega) (by omega) h5 (by omega) (by omega) h7
  · have e : frAns zs (P : Int) = (0, ByteArray.empty, 0, 6) := by
      unfold frAns; rw [eP, hs', hnum, hsm, es, if_neg (by omega), if_neg (by omega), if_neg (by omega), if_neg h5, if_neg h6, if_neg h7]
    rw [e]; exact implRf_pan _ _ 6 w fun w' hb' => readRf_6 b off _ c zs P s num w' rfl (HB w' hb') (HC w' hb') hz hcn hcm hn hP hs' hnum sm hsm (by omega) (by omega) h5 (by omega) (by omega) h7

end Go.Proofs.YtkfmpfbhhmmllaaGreat

/- RfA: FrameRead, the model's and the program's: both answer frAns. -/
namespace Go.Proofs.YtkfmpfbhhmmllaaGreat
open Go.RowKit
set_option linter.unusedVariables false
set_option maxRecDepth 100000

theorem rf_spec (v : Value) (zs : List Int) (p : Int) (w : World) (h : Reads (.sl .u8) w [v] zs) (hn : zs.length ≤ 1048576) (hp1 : -9223372036854775808 ≤ p) (hp2 : p ≤ 9223372036854775807) :
    Calls Tryz.prog 74 #[v, .int .i64 p] w fun e w' => e = .returned (.tuple #[.agg #[.int .i64 (frAns zs p).1, .string (frAns zs p).2.1], .int .i64 (frAns zs p).2.2.1, .int .i64 (frAns zs p).2.2.2]) ∧ Below w.heap.size w w' := by
  obtain ⟨a, c, hv, hcn, hcm⟩ := reads_val h
  have hv' : v = .slice a zs.length c := hv
  subst hv'
  obtain ⟨_, hrd, _, _⟩ := reads_bytes h
  by_cases h1 : p < 0
  · have e : frAns zs p = (0, ByteArray.empty, 0, 1) := by unfold frAns; rw [if_pos (by omega)]
    rw [e]; exact specRf_near a _ c p w hn hp1 hp2 1 (.inl ⟨h1, rfl⟩)
  by_cases h2 : (zs.length : Int) < p
  · have e : frAns zs p = (0, ByteArray.empty, 0, 1) := by unfold frAns; rw [if_pos (by omega)]
    rw [e]; exact specRf_near a _ c p w hn hp1 hp2 1 (.inr (.inl ⟨h1, h2, rfl⟩))
  by_cases h3 : (zs.length : Int) - p < 10
  · have e : frAns zs p = (0, ByteArray.empty, 0, 2) := by unfold frAns; rw [if_neg (by omega), if_pos h3]
    rw [e]; exact specRf_near a _ c p w hn hp1 hp2 2 (.inr (.inr ⟨h1, h2, h3, rfl⟩))
  obtain ⟨P, rfl⟩ := Int.eq_ofNat_of_zero_le (show 0 ≤ p by omega)
  have hne : zs ≠ [] := by intro h9; subst h9; simp at h3; omega
  obtain ⟨b, off, rfl, hb, hc⟩ := hrd.2.resolve_left hne
  have hz : Byt zs := hrd.1
  have hs := gnum2_bd zs hz P
  obtain ⟨s, hs'⟩ := Int.eq_ofNat_of_zero_le hs.1
  exact specRf_far b off _ c zs P s _ 0 w rfl hb hc hz hcn hcm hn (by omega) hs' rfl _ rfl

end Go.Proofs.YtkfmpfbhhmmllaaGreat
