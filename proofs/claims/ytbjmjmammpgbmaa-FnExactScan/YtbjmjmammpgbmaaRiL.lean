/-
  readFrame of the program: the sum. By program (rigen.py).
-/
import Derived.Test.YtbjmjmammpgbmaaRfC
import Derived.Test.YtbjmjmammpgbmaaRfIP
import Derived.Test.YtbjmjmammpgbmaaGetI
import Derived.Test.YtbjmjmammpgbmaaFrI
import Derived.Test.YtbjmjmammpgbmaaNeedI
import Derived.Test.YtbjmjmammpgbmaaEnt
import Derived.Test.YtbjmjmammpgbmaaPlain
import Derived.Deep.RegionHeld3
import Derived.Handy
import Derived.Test.YtbjmjmammpgbmaaMk
namespace Go.Proofs.Ytbjmjmammpgbmaa
open Go.RowKit
set_option linter.unusedVariables false
set_option linter.unusedSimpArgs false

set_option maxRecDepth 100000 in
set_option maxHeartbeats 2000000 in
theorem readRf_6 (b off n c : Nat) (zs : List Int) (P s : Nat) (num : Int) (w : World) (hl : zs.length = n) (hb : b < w.heap.size) (hc : ∀ i, i < n → w.cell? ⟨b, off + i, none⟩ = some (.int .u8 (zs[i]?.getD 0))) (hz : Byt zs)
    (hcn : n ≤ c) (hcm : c ≤ maxLen) (hn : n ≤ 1048576) (hP : P + 10 ≤ n) (hs : gnum zs P 2 = (s : Int)) (hnum : gnum zs (P + 2) 4 = num) (sm : Int) (hsm : gnum zs (P + 6) 4 = sm) (h3 : ¬ s = 0) (h3' : ¬ 1000 < s) (h4 : ¬ (n : Int) - (P : Int) - 10 < (s : Int)) (h5 : ¬ num = 0) (h5' : ¬ 1000000000 < num) (h6 : ¬ sm = crcI (cutL zs P 6 ++ cutL zs (P + 10) s)) :
    Calls Try.prog 34 #[.slice (some ⟨b, off, none⟩) n c, .int .i64 (P : Int)] w fun e w' => e = .panicked [{ v := .iface 55 (.int .i64 6), recovered := false }] ∧ Below w.heap.size w w' := by
  unfold maxLen at hcm
  have HC : Hid (∀ w', Below w.heap.size w w' → ∀ i, i < n → w'.cell? ⟨b, off + i, none⟩ = some (.int .u8 (zs[i]?.getD 0))) := fun w' hb' i hi => (hb'.cell (p := ⟨b, off + i, none⟩) hb).trans (hc i hi)
  have HH : Hid (∀ w', Below w.heap.size w w' → Rd w' (some ⟨b, off + P, none⟩) (cutL zs P 10)) := fun w' hb' => rd_cut (Nat.lt_of_lt_of_le hb hb'.size) hz hl (HC.out w' hb') P 10 (by omega)
  have hl10 : (cutL zs P 10).length = 10 := cutL_len _ _ _ (by omega)
  have g1 : Hid (∀ w' cp, Below w.heap.size w w' → Calls Try.prog 47 #[.slice (some ⟨b, off + P, none⟩) 10 cp, .int .i64 0, .int .i64 2] w' fun e w'' => e = .returned (.tuple #[.int .i64 (s : Int), .bool true]) ∧ w'' = w') := fun w' cp hb' => by
    rw [← hs, show gnum zs P 2 = gnum (cutL zs P 10) 0 2 from (gnum_cut zs P 10 0 2 (by omega)).symm]; exact implGet_yes _ 10 cp _ 0 2 w' hl10 (HH.out w' hb') (by omega) (by omega) (by omega) (by omega)
  have g2 : Hid (∀ w' cp, Below w.heap.size w w' → Calls Try.prog 47 #[.slice (some ⟨b, off + P, none⟩) 10 cp, .int .i64 2, .int .i64 4] w' fun e w'' => e = .returned (.tuple #[.int .i64 num, .bool true]) ∧ w'' = w') := fun w' cp hb' => by
    rw [← hnum, show gnum zs (P + 2) 4 = gnum (cutL zs P 10) 2 4 from (gnum_cut zs P 10 2 4 (by omega)).symm]; exact implGet_yes _ 10 cp _ 2 4 w' hl10 (HH.out w' hb') (by omega) (by omega) (by omega) (by omega)
  have hnb := gnum4_bd zs hz (P + 2)
  rw [hnum] at hnb
  obtain ⟨A, hA⟩ : ∃ A : Nat, A = P + 10 := ⟨_, rfl⟩
  have a1 : (P : Int) + 10 = (A : Int) := by omega
  have aw1 : IntKind.i64.wrap (A : Int) = (A : Int) := wrap_i64_in _ (by omega) (by omega)
  have a2 : A - P = 10 := by omega
  have a3 : A ≤ n := by omega
  have a4 : A ≤ c := by omega
  have a5 : ¬ c < A := by omega
  have a6 : P ≤ A := by omega
  have a7 : ¬ c = P := by omega
  have a8 : ¬ A = P := by omega
  have t1 : (0 : Int) ≤ (P : Int) := by omega
  have t2 : (P : Int) ≤ (n : Int) := by omega
  have t3 : (10 : Int) ≤ (n : Int) - (P : Int) := by omega
  have bW0 : Below w.heap.size w (w.alloc (.cells #[.int .i64 0, .string ⟨#[]⟩] 33)) := (Below.refl _ _).alloc (Nat.le_refl _) _
  have bD : Below w.heap.size w (w.alloc (.cells #[.int .i64 0, .string ⟨#[]⟩] 33)).drew := bW0.drew
  have qT : Hid (∀ w', Calls Try.prog 40 #[.int .i64 (s : Int)] w' fun e w'' => e = .returned (.bool true) ∧ w'' = w') := fun w' => by
    have := textSizeOk_any (s : Int) w'
    rwa [show (decide ((1 : Int) ≤ (s : Int)) && decide ((s : Int) ≤ 1000)) = true by simp; omega] at this
  have qN : Hid (∀ w', Calls Try.prog 39 #[.int .i64 num] w' fun e w'' => e = .returned (.bool true) ∧ w'' = w') := fun w' => by
    have := seqOk_any num w'
    rwa [show (decide ((1 : Int) ≤ num) && decide (num ≤ 1000000000)) = true by simp; omega] at this
  have z1 : s ≤ n - A := by omega
  have z3 : (s : Int) ≤ ((n - A : Nat) : Int) := by omega
  have hcA : ¬ c = A := by omega
  have g3 : Hid (∀ w' cp, Below w.heap.size w w' → Calls Try.prog 47 #[.slice (some ⟨b, off + P, none⟩) 10 cp, .int .i64 6, .int .i64 4] w' fun e w'' => e = .returned (.tuple #[.int .i64 sm, .bool true]) ∧ w'' = w') := fun w' cp hb' => by
    rw [← hsm, show gnum zs (P + 6) 4 = gnum (cutL zs P 10) 6 4 from (gnum_cut zs P 10 6 4 (by omega)).symm]; exact implGet_yes _ 10 cp _ 6 4 w' hl10 (HH.out w' hb') (by omega) (by omega) (by omega) (by omega)
  obtain ⟨C, hC⟩ : ∃ C, C = crcI (cutL zs P 6 ++ cutL zs A s) := ⟨_, rfl⟩
  have qS : Hid (∀ w', Below w.heap.size w w' → Calls Try.prog 31 #[.slice (some ⟨b, off + P, none⟩) 6 (c - P), .slice (some ⟨b, off + A, none⟩) s (c - A)] w' fun e w'' => e = .returned (.int .i64 C) ∧ Below w'.heap.size w' w'') := fun w' hb' => by
    rw [hC]
    exact frameSum_any _ 6 (c - P) (cutL zs P 6) _ s (cutL zs A s) w' (cutL_len _ _ _ (by omega)) (rd_cut (Nat.lt_of_lt_of_le hb hb'.size) hz hl (HC.out w' hb') P 6 (by omega)) (src_cut hl (HC.out w' hb') A s (c - A) (by omega)) (cutL_len _ _ _ (by omega)) (byt_cutL zs hz _ _) (by omega) (by omega)
  have bD1 : Below w.heap.size w (w.alloc (.cells #[.int .i64 0, .string ⟨#[]⟩] 33)).drew.drew := bD.drew
  have hq : (sm == C) = false := by rw [hC, hA]; simpa using h6
  have x1 : (6 : Nat) ≤ c - P := by omega
  have x3 : ¬ (((c - P : Nat) : Int) < 6) := by omega
  have x4 : ¬ (((c - A : Nat) : Int) < (s : Int)) := by omega
  have x2 : s ≤ c - A := by omega
  clear HC HH hl10 hc hl hz hs hnum hsm hA hC h6
  go_enter Try.func34, Try.ntmps34
  go_wp2_with fail
  refine (need_yes 1 _).mono ?_
  rintro e w9 ⟨rfl, rfl⟩
  go_wp2_with fail
  refine (need_yes 2 _).mono ?_
  rintro e w9 ⟨rfl, rfl⟩
  go_wp2_with fail
  refine wp_region_held_drew (S := fun w' => True) (by kernel_rfl) trivial (fun hHeld => ?_)
  refine wpAnyH_take (i := 0) (v := .slice (some ⟨b, off, none⟩) n c) rfl (by kernel_rfl) (by kernel_rfl) (by kernel_rfl) (fun _ _ _ h => h) (Or.inl ⟨by kernel_rfl, ?_⟩) (by assumption) ?_
  · intro w9 hSw; (try dsimp only at hSw); go_simp
  simp only [Act.put, List.getElem_toArray, List.getElem_cons_succ, List.getElem_cons_zero, List.setIfInBounds_toArray, List.set_cons_zero, List.set_cons_succ]
  refine wpAnyH_take (i := 1) (v := .int .i64 P) rfl (by kernel_rfl) (by kernel_rfl) (by kernel_rfl) (fun _ _ _ h => h) (Or.inl ⟨by kernel_rfl, ?_⟩) (by assumption) ?_
  · intro w9 hSw; (try dsimp only at hSw); go_simp
  simp only [Act.put, List.getElem_toArray, List.getElem_cons_succ, List.getElem_cons_zero, List.setIfInBounds_toArray, List.set_cons_zero, List.set_cons_succ]
  refine wpAnyH_take (i := 2) (v := .int .i64 P) rfl (by kernel_rfl) (by kernel_rfl) (by kernel_rfl) (fun _ _ _ h => h) (Or.inl ⟨by kernel_rfl, ?_⟩) (by assumption) ?_
  · intro w9 hSw; (try dsimp only at hSw); go_simp
  simp only [Act.put, List.getElem_toArray, List.getElem_cons_succ, List.getElem_cons_zero, List.setIfInBounds_toArray, List.set_cons_zero, List.set_cons_succ]
  refine wpAnyH_take (i := 3) (v := .int .i64 A) rfl (by kernel_rfl) (by kernel_rfl) (by kernel_rfl) (fun _ _ _ h => h) (Or.inl ⟨by kernel_rfl, ?_⟩) (by assumption) ?_
  · intro w9 hSw; (try dsimp only at hSw); go_simp
  simp only [Act.put, List.getElem_toArray, List.getElem_cons_succ, List.getElem_cons_zero, List.setIfInBounds_toArray, List.set_cons_zero, List.set_cons_succ]
  refine wpAnyH_take (i := 4) (v := .slice (some ⟨b, off + P, none⟩) 10 (c - P)) rfl (by kernel_rfl) (by kernel_rfl) (by kernel_rfl) (fun _ _ _ h => h) (Or.inl ⟨by kernel_rfl, ?_⟩) (by assumption) ?_
  · intro w9 hSw; (try dsimp only at hSw); go_simp
  simp only [Act.put, List.getElem_toArray, List.getElem_cons_succ, List.getElem_cons_zero, List.setIfInBounds_toArray, List.set_cons_zero, List.set_cons_succ]
  refine wpAnyH_take (i := 5) (v := .slice (some ⟨b, off, none⟩) n c) rfl (by kernel_rfl) (by kernel_rfl) (by kernel_rfl) (fun _ _ _ h => h) (Or.inl ⟨by kernel_rfl, ?_⟩) (by assumption) ?_
  · intro w9 hSw; (try dsimp only at hSw); go_simp
  simp only [Act.put, List.getElem_toArray, List.getElem_cons_succ, List.getElem_cons_zero, List.setIfInBounds_toArray, List.set_cons_zero, List.set_cons_succ]
  refine wpAnyH_take (i := 6) (v := .int .i64 P) rfl (by kernel_rfl) (by kernel_rfl) (by kernel_rfl) (fun _ _ _ h => h) (Or.inl ⟨by kernel_rfl, ?_⟩) (by assumption) ?_
  · intro w9 hSw; (try dsimp only at hSw); go_simp
  simp only [Act.put, List.getElem_toArray, List.getElem_cons_succ, List.getElem_cons_zero, List.setIfInBounds_toArray, List.set_cons_zero, List.set_cons_succ]
  refine wpAnyH_take (i := 7) (v := .int .i64 A) rfl (by kernel_rfl) (by kernel_rfl) (by kernel_rfl) (fun _ _ _ h => h) (Or.inl ⟨by kernel_rfl, ?_⟩) (by assumption) ?_
  · intro w9 hSw; (try dsimp only at hSw); go_simp
  simp only [Act.put, List.getElem_toArray, List.getElem_cons_succ, List.getElem_cons_zero, List.setIfInBounds_toArray, List.set_cons_zero, List.set_cons_succ]
  refine wpAnyH_take (i := 8) (v := .slice (some ⟨b, off + A, none⟩) (n - A) (c - A)) rfl (by kernel_rfl) (by kernel_rfl) (by kernel_rfl) (fun _ _ _ h => h) (Or.inl ⟨by kernel_rfl, ?_⟩) (by assumption) ?_
  · intro w9 hSw; (try dsimp only at hSw); go_simp
  simp only [Act.put, List.getElem_toArray, List.getElem_cons_succ, List.getElem_cons_zero, List.setIfInBounds_toArray, List.set_cons_zero, List.set_cons_succ]
  refine wpAnyH_take (i := 9) (v := .slice (some ⟨b, off + P, none⟩) 10 (c - P)) rfl (by kernel_rfl) (by kernel_rfl) (by kernel_rfl) (fun _ _ _ h => h) (Or.inl ⟨by kernel_rfl, ?_⟩) (by assumption) ?_
  · intro w9 hSw; (try dsimp only at hSw); go_simp
  simp only [Act.put, List.getElem_toArray, List.getElem_cons_succ, List.getElem_cons_zero, List.setIfInBounds_toArray, List.set_cons_zero, List.set_cons_succ]
  refine wpAnyH_take (i := 10) (v := .slice (some ⟨b, off + A, none⟩) (n - A) (c - A)) rfl (by kernel_rfl) (by kernel_rfl) (by kernel_rfl) (fun _ _ _ h => h) (Or.inl ⟨by kernel_rfl, ?_⟩) (by assumption) ?_
  · intro w9 hSw; (try dsimp only at hSw); go_simp
  simp only [Act.put, List.getElem_toArray, List.getElem_cons_succ, List.getElem_cons_zero, List.setIfInBounds_toArray, List.set_cons_zero, List.set_cons_succ]
  refine wpAnyH_done (by kernel_rfl) ?_ _
  go_wp2_with fail
  refine (g1.out _ _ bD).mono ?_
  rintro e w1 ⟨rfl, rfl⟩
  go_wp2_with fail
  refine (qT.out _).mono ?_
  rintro e w1 ⟨rfl, rfl⟩
  go_wp2_with fail
  refine (need_yes 3 _).mono ?_
  rintro e w9 ⟨rfl, rfl⟩
  go_wp2_with fail
  refine (need_yes 4 _).mono ?_
  rintro e w9 ⟨rfl, rfl⟩
  go_wp2_with fail
  refine (g2.out _ _ bD).mono ?_
  rintro e w1 ⟨rfl, rfl⟩
  go_wp2_with fail
  refine (qN.out _).mono ?_
  rintro e w1 ⟨rfl, rfl⟩
  go_wp2_with fail
  refine (need_yes 5 _).mono ?_
  rintro e w9 ⟨rfl, rfl⟩
  go_wp2_with fail
  refine (g3.out _ _ bD).mono ?_
  rintro e w1 ⟨rfl, rfl⟩
  go_wp2_with fail
  refine wp_region_held_drew (S := fun w' => True) (by kernel_rfl) trivial (fun hHeld => ?_)
  refine wpAnyH_take (i := 0) (v := .int .i64 sm) rfl (by kernel_rfl) (by kernel_rfl) (by kernel_rfl) (fun _ _ _ h => h) (Or.inl ⟨by kernel_rfl, ?_⟩) (by assumption) ?_
  · intro w9 hSw; (try dsimp only at hSw); go_simp
  simp only [Act.put, List.getElem_toArray, List.getElem_cons_succ, List.getElem_cons_zero, List.setIfInBounds_toArray, List.set_cons_zero, List.set_cons_succ]
  refine wpAnyH_take (i := 1) (v := .slice (some ⟨b, off + P, none⟩) 10 (c - P)) rfl (by kernel_rfl) (by kernel_rfl) (by kernel_rfl) (fun _ _ _ h => h) (Or.inl ⟨by kernel_rfl, ?_⟩) (by assumption) ?_
  · intro w9 hSw; (try dsimp only at hSw); go_simp
  simp only [Act.put, List.getElem_toArray, List.getElem_cons_succ, List.getElem_cons_zero, List.setIfInBounds_toArray, List.set_cons_zero, List.set_cons_succ]
  refine wpAnyH_take (i := 2) (v := .slice (some ⟨b, off + P, none⟩) 6 (c - P)) rfl (by kernel_rfl) (by kernel_rfl) (by kernel_rfl) (fun _ _ _ h => h) (Or.inl ⟨by kernel_rfl, ?_⟩) (by assumption) ?_
  · intro w9 hSw; (try dsimp only at hSw); go_simp
  simp only [Act.put, List.getElem_toArray, List.getElem_cons_succ, List.getElem_cons_zero, List.setIfInBounds_toArray, List.set_cons_zero, List.set_cons_succ]
  refine wpAnyH_take (i := 3) (v := .slice (some ⟨b, off + A, none⟩) (n - A) (c - A)) rfl (by kernel_rfl) (by kernel_rfl) (by kernel_rfl) (fun _ _ _ h => h) (Or.inl ⟨by kernel_rfl, ?_⟩) (by assumption) ?_
  · intro w9 hSw; (try dsimp only at hSw); go_simp
  simp only [Act.put, List.getElem_toArray, List.getElem_cons_succ, List.getElem_cons_zero, List.setIfInBounds_toArray, List.set_cons_zero, List.set_cons_succ]
  refine wpAnyH_take (i := 4) (v := .int .i64 s) rfl (by kernel_rfl) (by kernel_rfl) (by kernel_rfl) (fun _ _ _ h => h) (Or.inl ⟨by kernel_rfl, ?_⟩) (by assumption) ?_
  · intro w9 hSw; (try dsimp only at hSw); go_simp
  simp only [Act.put, List.getElem_toArray, List.getElem_cons_succ, List.getElem_cons_zero, List.setIfInBounds_toArray, List.set_cons_zero, List.set_cons_succ]
  refine wpAnyH_take (i := 5) (v := .slice (some ⟨b, off + A, none⟩) s (c - A)) rfl (by kernel_rfl) (by kernel_rfl) (by kernel_rfl) (fun _ _ _ h => h) (Or.inl ⟨by kernel_rfl, ?_⟩) (by assumption) ?_
  · intro w9 hSw; (try dsimp only at hSw); go_simp
  simp only [Act.put, List.getElem_toArray, List.getElem_cons_succ, List.getElem_cons_zero, List.setIfInBounds_toArray, List.set_cons_zero, List.set_cons_succ]
  refine wpAnyH_ready (rs := [6]) (by kernel_rfl) (by simp) ?_
  refine AllReadyH.cons rfl (fun K hK => ?_) AllReadyH.nil
  go_simp
  refine (qS.out _ bD1).mono ?_
  rintro e w5 ⟨rfl, hb5⟩
  go_wp2_with fail
  refine hK.out _ _ trivial (fun hHeld6 => ?_)
  clear hK
  refine wpAnyH_take (i := 7) (v := .bool false) rfl (by kernel_rfl) (by kernel_rfl) (by kernel_rfl) (fun _ _ _ h => h) (Or.inl ⟨by kernel_rfl, ?_⟩) (by assumption) ?_
  · intro w9 hSw; (try dsimp only at hSw); go_simp
  simp only [Act.put, List.getElem_toArray, List.getElem_cons_succ, List.getElem_cons_zero, List.setIfInBounds_toArray, List.set_cons_zero, List.set_cons_succ]
  refine wpAnyH_ready (rs := [8]) (by kernel_rfl) (by simp) ?_
  refine AllReadyH.cons rfl (fun K hK => ?_) AllReadyH.nil
  go_simp
  refine (need_no 6 _).mono ?_
  rintro e w9 ⟨rfl, rfl⟩
  have bE : Below w.heap.size w w9 := bD1.trans (hb5.mono bD1.size)
  go_wp2_with fail
  exact ⟨rfl, rfl, bE⟩

set_option maxRecDepth 100000 in
set_option maxHeartbeats 2000000 in
theorem readRf_0 (b off n c : Nat) (zs : List Int) (P s : Nat) (num : Int) (w : World) (hl : zs.length = n) (hb : b < w.heap.size) (hc : ∀ i, i < n → w.cell? ⟨b, off + i, none⟩ = some (.int .u8 (zs[i]?.getD 0))) (hz : Byt zs)
    (hcn : n ≤ c) (hcm : c ≤ maxLen) (hn : n ≤ 1048576) (hP : P + 10 ≤ n) (hs : gnum zs P 2 = (s : Int)) (hnum : gnum zs (P + 2) 4 = num) (sm : Int) (hsm : gnum zs (P + 6) 4 = sm) (h3 : ¬ s = 0) (h3' : ¬ 1000 < s) (h4 : ¬ (n : Int) - (P : Int) - 10 < (s : Int)) (h5 : ¬ num = 0) (h5' : ¬ 1000000000 < num) (h6 : sm = crcI (cutL zs P 6 ++ cutL zs (P + 10) s)) :
    Calls Try.prog 34 #[.slice (some ⟨b, off, none⟩) n c, .int .i64 (P : Int)] w fun e w' => e = .returned (.tuple #[.agg #[.int .i64 num, .string (strOfNums (cutL zs (P + 10) s))], .int .i64 ((P : Int) + 10 + (s : Int))]) ∧ Below w.heap.size w w' := by
  unfold maxLen at hcm
  have HC : Hid (∀ w', Below w.heap.size w w' → ∀ i, i < n → w'.cell? ⟨b, off + i, none⟩ = some (.int .u8 (zs[i]?.getD 0))) := fun w' hb' i hi => (hb'.cell (p := ⟨b, off + i, none⟩) hb).trans (hc i hi)
  have HH : Hid (∀ w', Below w.heap.size w w' → Rd w' (some ⟨b, off + P, none⟩) (cutL zs P 10)) := fun w' hb' => rd_cut (Nat.lt_of_lt_of_le hb hb'.size) hz hl (HC.out w' hb') P 10 (by omega)
  have hl10 : (cutL zs P 10).length = 10 := cutL_len _ _ _ (by omega)
  have g1 : Hid (∀ w' cp, Below w.heap.size w w' → Calls Try.prog 47 #[.slice (some ⟨b, off + P, none⟩) 10 cp, .int .i64 0, .int .i64 2] w' fun e w'' => e = .returned (.tuple #[.int .i64 (s : Int), .bool true]) ∧ w'' = w') := fun w' cp hb' => by
    rw [← hs, show gnum zs P 2 = gnum (cutL zs P 10) 0 2 from (gnum_cut zs P 10 0 2 (by omega)).symm]; exact implGet_yes _ 10 cp _ 0 2 w' hl10 (HH.out w' hb') (by omega) (by omega) (by omega) (by omega)
  have g2 : Hid (∀ w' cp, Below w.heap.size w w' → Calls Try.prog 47 #[.slice (some ⟨b, off + P, none⟩) 10 cp, .int .i64 2, .int .i64 4] w' fun e w'' => e = .returned (.tuple #[.int .i64 num, .bool true]) ∧ w'' = w') := fun w' cp hb' => by
    rw [← hnum, show gnum zs (P + 2) 4 = gnum (cutL zs P 10) 2 4 from (gnum_cut zs P 10 2 4 (by omega)).symm]; exact implGet_yes _ 10 cp _ 2 4 w' hl10 (HH.out w' hb') (by omega) (by omega) (by omega) (by omega)
  have hnb := gnum4_bd zs hz (P + 2)
  rw [hnum] at hnb
  obtain ⟨A, hA⟩ : ∃ A : Nat, A = P + 10 := ⟨_, rfl⟩
  have a1 : (P : Int) + 10 = (A : Int) := by omega
  have aw1 : IntKind.i64.wrap (A : Int) = (A : Int) := wrap_i64_in _ (by omega) (by omega)
  have a2 : A - P = 10 := by omega
  have a3 : A ≤ n := by omega
  have a4 : A ≤ c := by omega
  have a5 : ¬ c < A := by omega
  have a6 : P ≤ A := by omega
  have a7 : ¬ c = P := by omega
  have a8 : ¬ A = P := by omega
  have t1 : (0 : Int) ≤ (P : Int) := by omega
  have t2 : (P : Int) ≤ (n : Int) := by omega
  have t3 : (10 : Int) ≤ (n : Int) - (P : Int) := by omega
  have bW0 : Below w.heap.size w (w.alloc (.cells #[.int .i64 0, .string ⟨#[]⟩] 33)) := (Below.refl _ _).alloc (Nat.le_refl _) _
  have bD : Below w.heap.size w (w.alloc (.cells #[.int .i64 0, .string ⟨#[]⟩] 33)).drew := bW0.drew
  have qT : Hid (∀ w', Calls Try.prog 40 #[.int .i64 (s : Int)] w' fun e w'' => e = .returned (.bool true) ∧ w'' = w') := fun w' => by
    have := textSizeOk_any (s : Int) w'
    rwa [show (decide ((1 : Int) ≤ (s : Int)) && decide ((s : Int) ≤ 1000)) = true by simp; omega] at this
  have qN : Hid (∀ w', Calls Try.prog 39 #[.int .i64 num] w' fun e w'' => e = .returned (.bool true) ∧ w'' = w') := fun w' => by
    have := seqOk_any num w'
    rwa [show (decide ((1 : Int) ≤ num) && decide (num ≤ 1000000000)) = true by simp; omega] at this
  have z1 : s ≤ n - A := by omega
  have z3 : (s : Int) ≤ ((n - A : Nat) : Int) := by omega
  have hcA : ¬ c = A := by omega
  have g3 : Hid (∀ w' cp, Below w.heap.size w w' → Calls Try.prog 47 #[.slice (some ⟨b, off + P, none⟩) 10 cp, .int .i64 6, .int .i64 4] w' fun e w'' => e = .returned (.tuple #[.int .i64 sm, .bool true]) ∧ w'' = w') := fun w' cp hb' => by
    rw [← hsm, show gnum zs (P + 6) 4 = gnum (cutL zs P 10) 6 4 from (gnum_cut zs P 10 6 4 (by omega)).symm]; exact implGet_yes _ 10 cp _ 6 4 w' hl10 (HH.out w' hb') (by omega) (by omega) (by omega) (by omega)
  obtain ⟨C, hC⟩ : ∃ C, C = crcI (cutL zs P 6 ++ cutL zs A s) := ⟨_, rfl⟩
  have qS : Hid (∀ w', Below w.heap.size w w' → Calls Try.prog 31 #[.slice (some ⟨b, off + P, none⟩) 6 (c - P), .slice (some ⟨b, off + A, none⟩) s (c - A)] w' fun e w'' => e = .returned (.int .i64 C) ∧ Below w'.heap.size w' w'') := fun w' hb' => by
    rw [hC]
    exact frameSum_any _ 6 (c - P) (cutL zs P 6) _ s (cutL zs A s) w' (cutL_len _ _ _ (by omega)) (rd_cut (Nat.lt_of_lt_of_le hb hb'.size) hz hl (HC.out w' hb') P 6 (by omega)) (src_cut hl (HC.out w' hb') A s (c - A) (by omega)) (cutL_len _ _ _ (by omega)) (byt_cutL zs hz _ _) (by omega) (by omega)
  have bD1 : Below w.heap.size w (w.alloc (.cells #[.int .i64 0, .string ⟨#[]⟩] 33)).drew.drew := bD.drew
  have hq : (sm == C) = true := by rw [hC, hA]; simpa using h6
  have x1 : (6 : Nat) ≤ c - P := by omega
  have x3 : ¬ (((c - P : Nat) : Int) < 6) := by omega
  have x4 : ¬ (((c - A : Nat) : Int) < (s : Int)) := by omega
  have x2 : s ≤ c - A := by omega
  obtain ⟨tx, htx⟩ : ∃ tx, tx = strOfNums (cutL zs A s) := ⟨_, rfl⟩
  have qV : Hid (∀ w', Below w.heap.size w w' → (convert 22 9 (.slice (some ⟨b, off + A, none⟩) s (c - A))).run Try.prog w' = .ok (.string tx) w') := fun w' hb' => by rw [htx]; exact cut_conv b off n (c - A) zs A s w' (HC.out w' hb') (by omega) hl
  obtain ⟨Z, hZ⟩ : ∃ Z : Nat, Z = A + s := ⟨_, rfl⟩
  have a9 : (A : Int) + (s : Int) = (Z : Int) := by omega
  have aw9 : IntKind.i64.wrap (Z : Int) = (Z : Int) := wrap_i64_in _ (by omega) (by omega)
  rw [← hA, ← htx, a1, a9]
  have hbox : (w.alloc (.cells #[.int .i64 0, .string ⟨#[]⟩] 33)).drew.drew.heap[w.heap.size]? = some (.cells #[.int .i64 0, .string ⟨#[]⟩] 33 (0, 0)) := heap_alloc_new w _
  have zlt : w.heap.size < (w.alloc (.cells #[.int .i64 0, .string ⟨#[]⟩] 33)).drew.drew.heap.size := by simp
  have HB : Hid (∀ w', Below (w.alloc (.cells #[.int .i64 0, .string ⟨#[]⟩] 33)).drew.drew.heap.size (w.alloc (.cells #[.int .i64 0, .string ⟨#[]⟩] 33)).drew.drew w' → w'.heap[w.heap.size]? = some (.cells #[.int .i64 0, .string ⟨#[]⟩] 33 (0, 0))) := fun w' h' => (h'.block _ zlt).trans hbox
  clear HC HH hl10 hc hl hz hs hnum hsm hA hC h6 htx hZ hbox zlt
  go_enter Try.func34, Try.ntmps34
  go_wp2_with fail
  refine (need_yes 1 _).mono ?_
  rintro e w9 ⟨rfl, rfl⟩
  go_wp2_with fail
  refine (need_yes 2 _).mono ?_
  rintro e w9 ⟨rfl, rfl⟩
  go_wp2_with fail
  refine wp_region_held_drew (S := fun w' => True) (by kernel_rfl) trivial (fun hHeld => ?_)
  refine wpAnyH_take (i := 0) (v := .slice (some ⟨b, off, none⟩) n c) rfl (by kernel_rfl) (by kernel_rfl) (by kernel_rfl) (fun _ _ _ h => h) (Or.inl ⟨by kernel_rfl, ?_⟩) (by assumption) ?_
  · intro w9 hSw; (try dsimp only at hSw); go_simp
  simp only [Act.put, List.getElem_toArray, List.getElem_cons_succ, List.getElem_cons_zero, List.setIfInBounds_toArray, List.set_cons_zero, List.set_cons_succ]
  refine wpAnyH_take (i := 1) (v := .int .i64 P) rfl (by kernel_rfl) (by kernel_rfl) (by kernel_rfl) (fun _ _ _ h => h) (Or.inl ⟨by kernel_rfl, ?_⟩) (by assumption) ?_
  · intro w9 hSw; (try dsimp only at hSw); go_simp
  simp only [Act.put, List.getElem_toArray, List.getElem_cons_succ, List.getElem_cons_zero, List.setIfInBounds_toArray, List.set_cons_zero, List.set_cons_succ]
  refine wpAnyH_take (i := 2) (v := .int .i64 P) rfl (by kernel_rfl) (by kernel_rfl) (by kernel_rfl) (fun _ _ _ h => h) (Or.inl ⟨by kernel_rfl, ?_⟩) (by assumption) ?_
  · intro w9 hSw; (try dsimp only at hSw); go_simp
  simp only [Act.put, List.getElem_toArray, List.getElem_cons_succ, List.getElem_cons_zero, List.setIfInBounds_toArray, List.set_cons_zero, List.set_cons_succ]
  refine wpAnyH_take (i := 3) (v := .int .i64 A) rfl (by kernel_rfl) (by kernel_rfl) (by kernel_rfl) (fun _ _ _ h => h) (Or.inl ⟨by kernel_rfl, ?_⟩) (by assumption) ?_
  · intro w9 hSw; (try dsimp only at hSw); go_simp
  simp only [Act.put, List.getElem_toArray, List.getElem_cons_succ, List.getElem_cons_zero, List.setIfInBounds_toArray, List.set_cons_zero, List.set_cons_succ]
  refine wpAnyH_take (i := 4) (v := .slice (some ⟨b, off + P, none⟩) 10 (c - P)) rfl (by kernel_rfl) (by kernel_rfl) (by kernel_rfl) (fun _ _ _ h => h) (Or.inl ⟨by kernel_rfl, ?_⟩) (by assumption) ?_
  · intro w9 hSw; (try dsimp only at hSw); go_simp
  simp only [Act.put, List.getElem_toArray, List.getElem_cons_succ, List.getElem_cons_zero, List.setIfInBounds_toArray, List.set_cons_zero, List.set_cons_succ]
  refine wpAnyH_take (i := 5) (v := .slice (some ⟨b, off, none⟩) n c) rfl (by kernel_rfl) (by kernel_rfl) (by kernel_rfl) (fun _ _ _ h => h) (Or.inl ⟨by kernel_rfl, ?_⟩) (by assumption) ?_
  · intro w9 hSw; (try dsimp only at hSw); go_simp
  simp only [Act.put, List.getElem_toArray, List.getElem_cons_succ, List.getElem_cons_zero, List.setIfInBounds_toArray, List.set_cons_zero, List.set_cons_succ]
  refine wpAnyH_take (i := 6) (v := .int .i64 P) rfl (by kernel_rfl) (by kernel_rfl) (by kernel_rfl) (fun _ _ _ h => h) (Or.inl ⟨by kernel_rfl, ?_⟩) (by assumption) ?_
  · intro w9 hSw; (try dsimp only at hSw); go_simp
  simp only [Act.put, List.getElem_toArray, List.getElem_cons_succ, List.getElem_cons_zero, List.setIfInBounds_toArray, List.set_cons_zero, List.set_cons_succ]
  refine wpAnyH_take (i := 7) (v := .int .i64 A) rfl (by kernel_rfl) (by kernel_rfl) (by kernel_rfl) (fun _ _ _ h => h) (Or.inl ⟨by kernel_rfl, ?_⟩) (by assumption) ?_
  · intro w9 hSw; (try dsimp only at hSw); go_simp
  simp only [Act.put, List.getElem_toArray, List.getElem_cons_succ, List.getElem_cons_zero, List.setIfInBounds_toArray, List.set_cons_zero, List.set_cons_succ]
  refine wpAnyH_take (i := 8) (v := .slice (some ⟨b, off + A, none⟩) (n - A) (c - A)) rfl (by kernel_rfl) (by kernel_rfl) (by kernel_rfl) (fun _ _ _ h => h) (Or.inl ⟨by kernel_rfl, ?_⟩) (by assumption) ?_
  · intro w9 hSw; (try dsimp only at hSw); go_simp
  simp only [Act.put, List.getElem_toArray, List.getElem_cons_succ, List.getElem_cons_zero, List.setIfInBounds_toArray, List.set_cons_zero, List.set_cons_succ]
  refine wpAnyH_take (i := 9) (v := .slice (some ⟨b, off + P, none⟩) 10 (c - P)) rfl (by kernel_rfl) (by kernel_rfl) (by kernel_rfl) (fun _ _ _ h => h) (Or.inl ⟨by kernel_rfl, ?_⟩) (by assumption) ?_
  · intro w9 hSw; (try dsimp only at hSw); go_simp
  simp only [Act.put, List.getElem_toArray, List.getElem_cons_succ, List.getElem_cons_zero, List.setIfInBounds_toArray, List.set_cons_zero, List.set_cons_succ]
  refine wpAnyH_take (i := 10) (v := .slice (some ⟨b, off + A, none⟩) (n - A) (c - A)) rfl (by kernel_rfl) (by kernel_rfl) (by kernel_rfl) (fun _ _ _ h => h) (Or.inl ⟨by kernel_rfl, ?_⟩) (by assumption) ?_
  · intro w9 hSw; (try dsimp only at hSw); go_simp
  simp only [Act.put, List.getElem_toArray, List.getElem_cons_succ, List.getElem_cons_zero, List.setIfInBounds_toArray, List.set_cons_zero, List.set_cons_succ]
  refine wpAnyH_done (by kernel_rfl) ?_ _
  go_wp2_with fail
  refine (g1.out _ _ bD).mono ?_
  rintro e w1 ⟨rfl, rfl⟩
  go_wp2_with fail
  refine (qT.out _).mono ?_
  rintro e w1 ⟨rfl, rfl⟩
  go_wp2_with fail
  refine (need_yes 3 _).mono ?_
  rintro e w9 ⟨rfl, rfl⟩
  go_wp2_with fail
  refine (need_yes 4 _).mono ?_
  rintro e w9 ⟨rfl, rfl⟩
  go_wp2_with fail
  refine (g2.out _ _ bD).mono ?_
  rintro e w1 ⟨rfl, rfl⟩
  go_wp2_with fail
  refine (qN.out _).mono ?_
  rintro e w1 ⟨rfl, rfl⟩
  go_wp2_with fail
  refine (need_yes 5 _).mono ?_
  rintro e w9 ⟨rfl, rfl⟩
  go_wp2_with fail
  refine (g3.out _ _ bD).mono ?_
  rintro e w1 ⟨rfl, rfl⟩
  go_wp2_with fail
  refine wp_region_held_drew (S := fun w' => True) (by kernel_rfl) trivial (fun hHeld => ?_)
  refine wpAnyH_take (i := 0) (v := .int .i64 sm) rfl (by kernel_rfl) (by kernel_rfl) (by kernel_rfl) (fun _ _ _ h => h) (Or.inl ⟨by kernel_rfl, ?_⟩) (by assumption) ?_
  · intro w9 hSw; (try dsimp only at hSw); go_simp
  simp only [Act.put, List.getElem_toArray, List.getElem_cons_succ, List.getElem_cons_zero, List.setIfInBounds_toArray, List.set_cons_zero, List.set_cons_succ]
  refine wpAnyH_take (i := 1) (v := .slice (some ⟨b, off + P, none⟩) 10 (c - P)) rfl (by kernel_rfl) (by kernel_rfl) (by kernel_rfl) (fun _ _ _ h => h) (Or.inl ⟨by kernel_rfl, ?_⟩) (by assumption) ?_
  · intro w9 hSw; (try dsimp only at hSw); go_simp
  simp only [Act.put, List.getElem_toArray, List.getElem_cons_succ, List.getElem_cons_zero, List.setIfInBounds_toArray, List.set_cons_zero, List.set_cons_succ]
  refine wpAnyH_take (i := 2) (v := .slice (some ⟨b, off + P, none⟩) 6 (c - P)) rfl (by kernel_rfl) (by kernel_rfl) (by kernel_rfl) (fun _ _ _ h => h) (Or.inl ⟨by kernel_rfl, ?_⟩) (by assumption) ?_
  · intro w9 hSw; (try dsimp only at hSw); go_simp
  simp only [Act.put, List.getElem_toArray, List.getElem_cons_succ, List.getElem_cons_zero, List.setIfInBounds_toArray, List.set_cons_zero, List.set_cons_succ]
  refine wpAnyH_take (i := 3) (v := .slice (some ⟨b, off + A, none⟩) (n - A) (c - A)) rfl (by kernel_rfl) (by kernel_rfl) (by kernel_rfl) (fun _ _ _ h => h) (Or.inl ⟨by kernel_rfl, ?_⟩) (by assumption) ?_
  · intro w9 hSw; (try dsimp only at hSw); go_simp
  simp only [Act.put, List.getElem_toArray, List.getElem_cons_succ, List.getElem_cons_zero, List.setIfInBounds_toArray, List.set_cons_zero, List.set_cons_succ]
  refine wpAnyH_take (i := 4) (v := .int .i64 s) rfl (by kernel_rfl) (by kernel_rfl) (by kernel_rfl) (fun _ _ _ h => h) (Or.inl ⟨by kernel_rfl, ?_⟩) (by assumption) ?_
  · intro w9 hSw; (try dsimp only at hSw); go_simp
  simp only [Act.put, List.getElem_toArray, List.getElem_cons_succ, List.getElem_cons_zero, List.setIfInBounds_toArray, List.set_cons_zero, List.set_cons_succ]
  refine wpAnyH_take (i := 5) (v := .slice (some ⟨b, off + A, none⟩) s (c - A)) rfl (by kernel_rfl) (by kernel_rfl) (by kernel_rfl) (fun _ _ _ h => h) (Or.inl ⟨by kernel_rfl, ?_⟩) (by assumption) ?_
  · intro w9 hSw; (try dsimp only at hSw); go_simp
  simp only [Act.put, List.getElem_toArray, List.getElem_cons_succ, List.getElem_cons_zero, List.setIfInBounds_toArray, List.set_cons_zero, List.set_cons_succ]
  refine wpAnyH_ready (rs := [6]) (by kernel_rfl) (by simp) ?_
  refine AllReadyH.cons rfl (fun K hK => ?_) AllReadyH.nil
  go_simp
  refine (qS.out _ bD1).mono ?_
  rintro e w5 ⟨rfl, hb5⟩
  go_wp2_with fail
  refine hK.out _ _ trivial (fun hHeld6 => ?_)
  clear hK
  refine wpAnyH_take (i := 7) (v := .bool true) rfl (by kernel_rfl) (by kernel_rfl) (by kernel_rfl) (fun _ _ _ h => h) (Or.inl ⟨by kernel_rfl, ?_⟩) (by assumption) ?_
  · intro w9 hSw; (try dsimp only at hSw); go_simp
  simp only [Act.put, List.getElem_toArray, List.getElem_cons_succ, List.getElem_cons_zero, List.setIfInBounds_toArray, List.set_cons_zero, List.set_cons_succ]
  refine wpAnyH_ready (rs := [8]) (by kernel_rfl) (by simp) ?_
  refine AllReadyH.cons rfl (fun K hK => ?_) AllReadyH.nil
  go_simp
  refine (need_yes 6 _).mono ?_
  rintro e w9 ⟨rfl, rfl⟩
  go_wp2_with fail
  have hA5 := HB.out w9 hb5
  have b5 : Below w.heap.size w w9 := bD1.trans (hb5.mono bD1.size)
  have cV := qV.out w9 b5
  have u0 : w9.cell? ⟨w.heap.size, 0, none⟩ = some (.int .i64 0) := box_cell hA5 rfl
  have u1 : w9.cell? ⟨w.heap.size, 1, none⟩ = some (.string ⟨#[]⟩) := box_cell hA5 rfl
  have f0 : w9.frozen? ⟨w.heap.size, 0, none⟩ = false := box_frozen hA5
  have f1 : w9.frozen? ⟨w.heap.size, 1, none⟩ = false := box_frozen hA5
  have r0 : (w9.setCell ⟨w.heap.size, 0, none⟩ (.int .i64 num)).cell? ⟨w.heap.size, 0, none⟩ = some (.int .i64 num) := box_cell (box_set (.int .i64 num) hA5) rfl
  have r1 : ((w9.setCell ⟨w.heap.size, 0, none⟩ (.int .i64 num)).setCell ⟨w.heap.size, 1, none⟩ (.string tx)).cell? ⟨w.heap.size, 1, none⟩ = some (.string tx) := box_cell (box_set (.string tx) (box_set (.int .i64 num) hA5)) rfl
  have hws : w.heap.size < w9.heap.size := lt_heap hA5
  have bS : Below w.heap.size w ((w9.setCell ⟨w.heap.size, 0, none⟩ (.int .i64 num)).setCell ⟨w.heap.size, 1, none⟩ (.string tx)) := (b5.setCell (Nat.le_refl _) _).setCell (Nat.le_refl _) _
  clear hA5 HB qV hb5
  refine hK.out _ _ trivial (fun hHeld8 => ?_)
  clear hK
  refine wpAnyH_done (by kernel_rfl) ?_ _
  go_wp2
  (try simp only [Exit.inBlock, Exit.then])
  refine bodyPost_ret (by simp [results, Try.results34, go_sem, r0, r1]; try rfl) rfl ?_
  exact ⟨rfl, bS⟩

end Go.Proofs.Ytbjmjmammpgbmaa
