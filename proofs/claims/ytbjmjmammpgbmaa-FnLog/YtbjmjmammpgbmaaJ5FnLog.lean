/-
  Joined: RiL, CatchI, RfI, RfAI, ScI, WFnLog.
-/
import Derived.Test.YtbjmjmammpgbmaaJ4FnLog
import Derived.Test.YtbjmjmammpgbmaaJ2FnLog
import Derived.Test.YtbjmjmammpgbmaaJ1FnLog
import Derived.Test.YtbjmjmammpgbmaaJ0FnLog
import Derived.Deep.RegionHeld3
import Derived.Handy
import Derived.Defers
import Derived.Recover
import Derived.Laws.Pointers
/- RiL: readFrame of the program: the sum. By program (rigen.py). -/
namespace Go.Proofs.Ytbjmjmammpgbmaa
open Go.RowKit
set_option linter.unusedVariables false
set_option linter.unusedSimpArgs false

set_option maxRecDepth 100000 in
set_option maxHeartbeats 2000000 in
theorem readRf_6 (b off n c : Nat) (zs : List Int) (P s : Nat) (num : Int) (w : World) (hl : zs.length = n) (hb : b < w.heap.size) (hc : ∀ i, i < n → w.cell? ⟨b, off + i, none⟩ = some (.int .u8 (zs[i]?.getD 0))) (hz : Byt zs)
    (hcn : n ≤ c) (hcm : c ≤ maxLen) (hn : n ≤ 1048576) (hP : P + 10 ≤ n) (hs : gnum zs P 2 = (s : Int)) (hnum : gnum zs (P + 2) 4 = num) (sm : Int) (hsm : gnum zs (P + 6) 4 = sm) (h3 : ¬ s = 0) (h3' : ¬ 1000 < s) (h4 : ¬ (n : Int) - (P : Int) - 10 < (s : Int)) (h5 : ¬ num = 0) (h5' : ¬ 1000000000 < num) (h6 : ¬ sm = crcI (cutL zs P 6 ++ cutL zs (P + 10) s)) :
    Calls Try.prog 34 #[.slice (some ⟨b, off, none⟩) n c, .int .i64 (P : Int)] w fun e w' => e = .panicked [{ v := .iface 55 (.int .i64 6), recovered := false }] ∧ Below w.heap.size w w' := by
  unfold maxLen at hcm
  have HC : Hid (∀ w', Below w.heap.size w w' → ∀ i, i < n → w'.cell? ⟨b, off + i, none⟩ = some (.int .u8 (zs[i]?.getD 0))) := fun w' hb' i hi => (hb'.cell (p := ⟨b, off + i, none⟩) hb).trans (hc i hi)
  have HH : Hid (∀ w', Below w.heap.size w w' → Rd w' (some ⟨b, off + P, none⟩) (cutL zs P 10)) := fun w' hb' => rd_cut (Nat.lt_of_lt_of_le hb hb'.size) hz hl (HC.out w' hb') P 10 (by omega)
  have hl10 : (cutL zs P 10).length = 10 := cutL_len _ _ _ (by omega)
  have g1 : Hid (∀ w' cp, Below w.heap.size w w' → Calls Try.prog 47 #[.slice (some ⟨b, off + P, none⟩) 10 cp, .int .i64 0, .int .i64 2] w' fun e w'' => e = .returned (.tuple #[.int .i64 (s : Int), .bool true]) ∧ w'' = w') := fun w' cp hb' => by
    rw [← hs, show gnum zs P 2 = gnum (cutL zs P 10) 0 2 from (gnum_cut zs P 10 0 2 (by omega)).symm]; exact implGet_yes _ 10 cp _ 0 2 w' hl10 (HH.out w' hb') (by omega) (by omega) (by omega) (by omega)
  have g2 : Hid (∀ w' cp, Below w.heap.size w w' → Calls Try.prog 47 #[.slice (some ⟨b, off + P, none⟩) 10 cp, .int .i64 2, .int .i64 4] w' fun e w'' => e = .returned (.tuple #[.int .i64 num, .bool true]) ∧ w'' = w') := fun w' cp hb' => by
    rw [← hnum, show gnum zs (P + 2) 4 = gnum (cutL zs P 10) 2 4 from (gnum_cut zs P 10 2 4 (by omega)).symm]; exact implGet_yes _ 10 cp _ 2 4 w' hl10 (HH.out w' hb') (by omega) (by omega) (by omega) (by omega)
  have hnb := gnum4_bd zs hz (P + 2)
  rw [hnum] at hnb
  obtain ⟨A, hA⟩ : ∃ A : Nat, A = P + 10 := ⟨_, rfl⟩
  have a1 : (P : Int) + 10 = (A : Int) := by omega
  have aw1 : IntKind.i64.wrap (A : Int) = (A : Int) := wrap_i64_in _ (by omega) (by omega)
  have a2 : A - P = 10 := by omega
  have a3 : A ≤ n := by omega
  have a4 : A ≤ c := by omega
  have a5 : ¬ c < A := by omega
  have a6 : P ≤ A := by omega
  have a7 : ¬ c = P := by omega
  have a8 : ¬ A = P := by omega
  have t1 : (0 : Int) ≤ (P : Int) := by omega
  have t2 : (P : Int) ≤ (n : Int) := by omega
  have t3 : (10 : Int) ≤ (n : Int) - (P : Int) := by omega
  have bW0 : Below w.heap.size w (w.alloc (.cells #[.int .i64 0, .string ⟨#[]⟩] 33)) := (Below.refl _ _).alloc (Nat.le_refl _) _
  have bD : Below w.heap.size w (w.alloc (.cells #[.int .i64 0, .string ⟨#[]⟩] 33)).drew := bW0.drew
  have qT : Hid (∀ w', Calls Try.prog 40 #[.int .i64 (s : Int)] w' fun e w'' => e = .returned (.bool true) ∧ w'' = w') := fun w' => by
    have := textSizeOk_any (s : Int) w'
    rwa [show (decide ((1 : Int) ≤ (s : Int)) && decide ((s : Int) ≤ 1000)) = true by simp; omega] at this
  have qN : Hid (∀ w', Calls Try.prog 39 #[.int .i64 num] w' fun e w'' => e = .returned (.bool true) ∧ w'' = w') := fun w' => by
    have := seqOk_any num w'
    rwa [show (decide ((1 : Int) ≤ num) && decide (num ≤ 1000000000)) = true by simp; omega] at this
  have z1 : s ≤ n - A := by omega
  have z3 : (s : Int) ≤ ((n - A : Nat) : Int) := by omega
  have hcA : ¬ c = A := by omega
  have g3 : Hid (∀ w' cp, Below w.heap.size w w' → Calls Try.prog 47 #[.slice (some ⟨b, off + P, none⟩) 10 cp, .int .i64 6, .int .i64 4] w' fun e w'' => e = .returned (.tuple #[.int .i64 sm, .bool true]) ∧ w'' = w') := fun w' cp hb' => by
    rw [← hsm, show gnum zs (P + 6) 4 = gnum (cutL zs P 10) 6 4 from (gnum_cut zs P 10 6 4 (by omega)).symm]; exact implGet_yes _ 10 cp _ 6 4 w' hl10 (HH.out w' hb') (by omega) (by omega) (by omega) (by omega)
  obtain ⟨C, hC⟩ : ∃ C, C = crcI (cutL zs P 6 ++ cutL zs A s) := ⟨_, rfl⟩
  have qS : Hid (∀ w', Below w.heap.size w w' → Calls Try.prog 31 #[.slice (some ⟨b, off + P, none⟩) 6 (c - P), .slice (some ⟨b, off + A, none⟩) s (c - A)] w' fun e w'' => e = .returned (.int .i64 C) ∧ Below w'.heap.size w' w'') := fun w' hb' => by
    rw [hC]
    exact frameSum_any _ 6 (c - P) (cutL zs P 6) _ s (cutL zs A s) w' (cutL_len _ _ _ (by omega)) (rd_cut (Nat.lt_of_lt_of_le hb hb'.size) hz hl (HC.out w' hb') P 6 (by omega)) (src_cut hl (HC.out w' hb') A s (c - A) (by omega)) (cutL_len _ _ _ (by omega)) (byt_cutL zs hz _ _) (by omega) (by omega)
  have bD1 : Below w.heap.size w (w.alloc (.cells #[.int .i64 0, .string ⟨#[]⟩] 33)).drew.drew := bD.drew
  have hq : (sm == C) = false := by rw [hC, hA]; simpa using h6
  have x1 : (6 : Nat) ≤ c - P := by omega
  have x3 : ¬ (((c - P : Nat) : Int) < 6) := by omega
  have x4 : ¬ (((c - A : Nat) : Int) < (s : Int)) := by omega
  have x2 : s ≤ c - A := by omega
  clear HC HH hl10 hc hl hz hs hnum hsm hA hC h6
  go_enter Try.func34, Try.ntmps34
  go_wp2_with fail
  refine (need_yes 1 _).mono ?_
  rintro e w9 ⟨rfl, rfl⟩
  go_wp2_with fail
  refine (need_yes 2 _).mono ?_
  rintro e w9 ⟨rfl, rfl⟩
  go_wp2_with fail
  refine wp_region_held_drew (S := fun w' => True) (by kernel_rfl) trivial (fun hHeld => ?_)
  refine wpAnyH_take (i := 0) (v := .slice (some ⟨b, off, none⟩) n c) rfl (by kernel_rfl) (by kernel_rfl) (by kernel_rfl) (fun _ _ _ h => h) (Or.inl ⟨by kernel_rfl, ?_⟩) (by assumption) ?_
  · intro w9 hSw; (try dsimp only at hSw); go_simp
  simp only [Act.put, List.getElem_toArray, List.getElem_cons_succ, List.getElem_cons_zero, List.setIfInBounds_toArray, List.set_cons_zero, List.set_cons_succ]
  refine wpAnyH_take (i := 1) (v := .int .i64 P) rfl (by kernel_rfl) (by kernel_rfl) (by kernel_rfl) (fun _ _ _ h => h) (Or.inl ⟨by kernel_rfl, ?_⟩) (by assumption) ?_
  · intro w9 hSw; (try dsimp only at hSw); go_simp
  simp only [Act.put, List.getElem_toArray, List.getElem_cons_succ, List.getElem_cons_zero, List.setIfInBounds_toArray, List.set_cons_zero, List.set_cons_succ]
  refine wpAnyH_take (i := 2) (v := .int .i64 P) rfl (by kernel_rfl) (by kernel_rfl) (by kernel_rfl) (fun _ _ _ h => h) (Or.inl ⟨by kernel_rfl, ?_⟩) (by assumption) ?_
  · intro w9 hSw; (try dsimp only at hSw); go_simp
  simp only [Act.put, List.getElem_toArray, List.getElem_cons_succ, List.getElem_cons_zero, List.setIfInBounds_toArray, List.set_cons_zero, List.set_cons_succ]
  refine wpAnyH_take (i := 3) (v := .int .i64 A) rfl (by kernel_rfl) (by kernel_rfl) (by kernel_rfl) (fun _ _ _ h => h) (Or.inl ⟨by kernel_rfl, ?_⟩) (by assumption) ?_
  · intro w9 hSw; (try dsimp only at hSw); go_simp
  simp only [Act.put, List.getElem_toArray, List.getElem_cons_succ, List.getElem_cons_zero, List.setIfInBounds_toArray, List.set_cons_zero, List.set_cons_succ]
  refine wpAnyH_take (i := 4) (v := .slice (some ⟨b, off + P, none⟩) 10 (c - P)) rfl (by kernel_rfl) (by kernel_rfl) (by kernel_rfl) (fun _ _ _ h => h) (Or.inl ⟨by kernel_rfl, ?_⟩) (by assumption) ?_
  · intro w9 hSw; (try dsimp only at hSw); go_simp
  simp only [Act.put, List.getElem_toArray, List.getElem_cons_succ, List.getElem_cons_zero, List.setIfInBounds_toArray, List.set_cons_zero, List.set_cons_succ]
  refine wpAnyH_take (i := 5) (v := .slice (some ⟨b, off, none⟩) n c) rfl (by kernel_rfl) (by kernel_rfl) (by kernel_rfl) (fun _ _ _ h => h) (Or.inl ⟨by kernel_rfl, ?_⟩) (by assumption) ?_
  · intro w9 hSw; (try dsimp only at hSw); go_simp
  simp only [Act.put, List.getElem_toArray, List.getElem_cons_succ, List.getElem_cons_zero, List.setIfInBounds_toArray, List.set_cons_zero, List.set_cons_succ]
  refine wpAnyH_take (i := 6) (v := .int .i64 P) rfl (by kernel_rfl) (by kernel_rfl) (by kernel_rfl) (fun _ _ _ h => h) (Or.inl ⟨by kernel_rfl, ?_⟩) (by assumption) ?_
  · intro w9 hSw; (try dsimp only at hSw); go_simp
  simp only [Act.put, List.getElem_toArray, List.getElem_cons_succ, List.getElem_cons_zero, List.setIfInBounds_toArray, List.set_cons_zero, List.set_cons_succ]
  refine wpAnyH_take (i := 7) (v := .int .i64 A) rfl (by kernel_rfl) (by kernel_rfl) (by kernel_rfl) (fun _ _ _ h => h) (Or.inl ⟨by kernel_rfl, ?_⟩) (by assumption) ?_
  · intro w9 hSw; (try dsimp only at hSw); go_simp
  simp only [Act.put, List.getElem_toArray, List.getElem_cons_succ, List.getElem_cons_zero, List.setIfInBounds_toArray, List.set_cons_zero, List.set_cons_succ]
  refine wpAnyH_take (i := 8) (v := .slice (some ⟨b, off + A, none⟩) (n - A) (c - A)) rfl (by kernel_rfl) (by kernel_rfl) (by kernel_rfl) (fun _ _ _ h => h) (Or.inl ⟨by kernel_rfl, ?_⟩) (by assumption) ?_
  · intro w9 hSw; (try dsimp only at hSw); go_simp
  simp only [Act.put, List.getElem_toArray, List.getElem_cons_succ, List.getElem_cons_zero, List.setIfInBounds_toArray, List.set_cons_zero, List.set_cons_succ]
  refine wpAnyH_take (i := 9) (v := .slice (some ⟨b, off + P, none⟩) 10 (c - P)) rfl (by kernel_rfl) (by kernel_rfl) (by kernel_rfl) (fun _ _ _ h => h) (Or.inl ⟨by kernel_rfl, ?_⟩) (by assumption) ?_
  · intro w9 hSw; (try dsimp only at hSw); go_simp
  simp only [Act.put, List.getElem_toArray, List.getElem_cons_succ, List.getElem_cons_zero, List.setIfInBounds_toArray, List.set_cons_zero, List.set_cons_succ]
  refine wpAnyH_take (i := 10) (v := .slice (some ⟨b, off + A, none⟩) (n - A) (c - A)) rfl (by kernel_rfl) (by kernel_rfl) (by kernel_rfl) (fun _ _ _ h => h) (Or.inl ⟨by kernel_rfl, ?_⟩) (by assumption) ?_
  · intro w9 hSw; (try dsimp only at hSw); go_simp
  simp only [Act.put, List.getElem_toArray, List.getElem_cons_succ, List.getElem_cons_zero, List.setIfInBounds_toArray, List.set_cons_zero, List.set_cons_succ]
  refine wpAnyH_done (by kernel_rfl) ?_ _
  go_wp2_with fail
  refine (g1.out _ _ bD).mono ?_
  rintro e w1 ⟨rfl, rfl⟩
  go_wp2_with fail
  refine (qT.out _).mono ?_
  rintro e w1 ⟨rfl, rfl⟩
  go_wp2_with fail
  refine (need_yes 3 _).mono ?_
  rintro e w9 ⟨rfl, rfl⟩
  go_wp2_with fail
  refine (need_yes 4 _).mono ?_
  rintro e w9 ⟨rfl, rfl⟩
  go_wp2_with fail
  refine (g2.out _ _ bD).mono ?_
  rintro e w1 ⟨rfl, rfl⟩
  go_wp2_with fail
  refine (qN.out _).mono ?_
  rintro e w1 ⟨rfl, rfl⟩
  go_wp2_with fail
  refine (need_yes 5 _).mono ?_
  rintro e w9 ⟨rfl, rfl⟩
  go_wp2_with fail
  refine (g3.out _ _ bD).mono ?_
  rintro e w1 ⟨rfl, rfl⟩
  go_wp2_with fail
  refine wp_region_held_drew (S := fun w' => True) (by kernel_rfl) trivial (fun hHeld => ?_)
  refine wpAnyH_take (i := 0) (v := .int .i64 sm) rfl (by kernel_rfl) (by kernel_rfl) (by kernel_rfl) (fun _ _ _ h => h) (Or.inl ⟨by kernel_rfl, ?_⟩) (by assumption) ?_
  · intro w9 hSw; (try dsimp only at hSw); go_simp
  simp only [Act.put, List.getElem_toArray, List.getElem_cons_succ, List.getElem_cons_zero, List.setIfInBounds_toArray, List.set_cons_zero, List.set_cons_succ]
  refine wpAnyH_take (i := 1) (v := .slice (some ⟨b, off + P, none⟩) 10 (c - P)) rfl (by kernel_rfl) (by kernel_rfl) (by kernel_rfl) (fun _ _ _ h => h) (Or.inl ⟨by kernel_rfl, ?_⟩) (by assumption) ?_
  · intro w9 hSw; (try dsimp only at hSw); go_simp
  simp only [Act.put, List.getElem_toArray, List.getElem_cons_succ, List.getElem_cons_zero, List.setIfInBounds_toArray, List.set_cons_zero, List.set_cons_succ]
  refine wpAnyH_take (i := 2) (v := .slice (some ⟨b, off + P, none⟩) 6 (c - P)) rfl (by kernel_rfl) (by kernel_rfl) (by kernel_rfl) (fun _ _ _ h => h) (Or.inl ⟨by kernel_rfl, ?_⟩) (by assumption) ?_
  · intro w9 hSw; (try dsimp only at hSw); go_simp
  simp only [Act.put, List.getElem_toArray, List.getElem_cons_succ, List.getElem_cons_zero, List.setIfInBounds_toArray, List.set_cons_zero, List.set_cons_succ]
  refine wpAnyH_take (i := 3) (v := .slice (some ⟨b, off + A, none⟩) (n - A) (c - A)) rfl (by kernel_rfl) (by kernel_rfl) (by kernel_rfl) (fun _ _ _ h => h) (Or.inl ⟨by kernel_rfl, ?_⟩) (by assumption) ?_
  · intro w9 hSw; (try dsimp only at hSw); go_simp
  simp only [Act.put, List.getElem_toArray, List.getElem_cons_succ, List.getElem_cons_zero, List.setIfInBounds_toArray, List.set_cons_zero, List.set_cons_succ]
  refine wpAnyH_take (i := 4) (v := .int .i64 s) rfl (by kernel_rfl) (by kernel_rfl) (by kernel_rfl) (fun _ _ _ h => h) (Or.inl ⟨by kernel_rfl, ?_⟩) (by assumption) ?_
  · intro w9 hSw; (try dsimp only at hSw); go_simp
  simp only [Act.put, List.getElem_toArray, List.getElem_cons_succ, List.getElem_cons_zero, List.setIfInBounds_toArray, List.set_cons_zero, List.set_cons_succ]
  refine wpAnyH_take (i := 5) (v := .slice (some ⟨b, off + A, none⟩) s (c - A)) rfl (by kernel_rfl) (by kernel_rfl) (by kernel_rfl) (fun _ _ _ h => h) (Or.inl ⟨by kernel_rfl, ?_⟩) (by assumption) ?_
  · intro w9 hSw; (try dsimp only at hSw); go_simp
  simp only [Act.put, List.getElem_toArray, List.getElem_cons_succ, List.getElem_cons_zero, List.setIfInBounds_toArray, List.set_cons_zero, List.set_cons_succ]
  refine wpAnyH_ready (rs := [6]) (by kernel_rfl) (by simp) ?_
  refine AllReadyH.cons rfl (fun K hK => ?_) AllReadyH.nil
  go_simp
  refine (qS.out _ bD1).mono ?_
  rintro e w5 ⟨rfl, hb5⟩
  go_wp2_with fail
  refine hK.out _ _ trivial (fun hHeld6 => ?_)
  clear hK
  refine wpAnyH_take (i := 7) (v := .bool false) rfl (by kernel_rfl) (by kernel_rfl) (by kernel_rfl) (fun _ _ _ h => h) (Or.inl ⟨by kernel_rfl, ?_⟩) (by assumption) ?_
  · intro w9 hSw; (try dsimp only at hSw); go_simp
  simp only [Act.put, List.getElem_toArray, List.getElem_cons_succ, List.getElem_cons_zero, List.setIfInBounds_toArray, List.set_cons_zero, List.set_cons_succ]
  refine wpAnyH_ready (rs := [8]) (by kernel_rfl) (by simp) ?_
  refine AllReadyH.cons rfl (fun K hK => ?_) AllReadyH.nil
  go_simp
  refine (need_no 6 _).mono ?_
  rintro e w9 ⟨rfl, rfl⟩
  have bE : Below w.heap.size w w9 := bD1.trans (hb5.mono bD1.size)
  go_wp2_with fail
  exact ⟨rfl, rfl, bE⟩

set_option maxRecDepth 100000 in
set_option maxHeartbeats 2000000 in
theorem readRf_0 (b off n c : Nat) (zs : List Int) (P s : Nat) (num : Int) (w : World) (hl : zs.length = n) (hb : b < w.heap.size) (hc : ∀ i, i < n → w.cell? ⟨b, off + i, none⟩ = some (.int .u8 (zs[i]?.getD 0))) (hz : Byt zs)
    (hcn : n ≤ c) (hcm : c ≤ maxLen) (hn : n ≤ 1048576) (hP : P + 10 ≤ n) (hs : gnum zs P 2 = (s : Int)) (hnum : gnum zs (P + 2) 4 = num) (sm : Int) (hsm : gnum zs (P + 6) 4 = sm) (h3 : ¬ s = 0) (h3' : ¬ 1000 < s) (h4 : ¬ (n : Int) - (P : Int) - 10 < (s : Int)) (h5 : ¬ num = 0) (h5' : ¬ 1000000000 < num) (h6 : sm = crcI (cutL zs P 6 ++ cutL zs (P + 10) s)) :
    Calls Try.prog 34 #[.slice (some ⟨b, off, none⟩) n c, .int .i64 (P : Int)] w fun e w' => e = .returned (.tuple #[.agg #[.int .i64 num, .string (strOfNums (cutL zs (P + 10) s))], .int .i64 ((P : Int) + 10 + (s : Int))]) ∧ Below w.heap.size w w' := by
  unfold maxLen at hcm
  have HC : Hid (∀ w', Below w.heap.size w w' → ∀ i, i < n → w'.cell? ⟨b, off + i, none⟩ = some (.int .u8 (zs[i]?.getD 0))) := fun w' hb' i hi => (hb'.cell (p := ⟨b, off + i, none⟩) hb).trans (hc i hi)
  have HH : Hid (∀ w', Below w.heap.size w w' → Rd w' (some ⟨b, off + P, none⟩) (cutL zs P 10)) := fun w' hb' => rd_cut (Nat.lt_of_lt_of_le hb hb'.size) hz hl (HC.out w' hb') P 10 (by omega)
  have hl10 : (cutL zs P 10).length = 10 := cutL_len _ _ _ (by omega)
  have g1 : Hid (∀ w' cp, Below w.heap.size w w' → Calls Try.prog 47 #[.slice (some ⟨b, off + P, none⟩) 10 cp, .int .i64 0, .int .i64 2] w' fun e w'' => e = .returned (.tuple #[.int .i64 (s : Int), .bool true]) ∧ w'' = w') := fun w' cp hb' => by
    rw [← hs, show gnum zs P 2 = gnum (cutL zs P 10) 0 2 from (gnum_cut zs P 10 0 2 (by omega)).symm]; exact implGet_yes _ 10 cp _ 0 2 w' hl10 (HH.out w' hb') (by omega) (by omega) (by omega) (by omega)
  have g2 : Hid (∀ w' cp, Below w.heap.size w w' → Calls Try.prog 47 #[.slice (some ⟨b, off + P, none⟩) 10 cp, .int .i64 2, .int .i64 4] w' fun e w'' => e = .returned (.tuple #[.int .i64 num, .bool true]) ∧ w'' = w') := fun w' cp hb' => by
    rw [← hnum, show gnum zs (P + 2) 4 = gnum (cutL zs P 10) 2 4 from (gnum_cut zs P 10 2 4 (by omega)).symm]; exact implGet_yes _ 10 cp _ 2 4 w' hl10 (HH.out w' hb') (by omega) (by omega) (by omega) (by omega)
  have hnb := gnum4_bd zs hz (P + 2)
  rw [hnum] at hnb
  obtain ⟨A, hA⟩ : ∃ A : Nat, A = P + 10 := ⟨_, rfl⟩
  have a1 : (P : Int) + 10 = (A : Int) := by omega
  have aw1 : IntKind.i64.wrap (A : Int) = (A : Int) := wrap_i64_in _ (by omega) (by omega)
  have a2 : A - P = 10 := by omega
  have a3 : A ≤ n := by omega
  have a4 : A ≤ c := by omega
  have a5 : ¬ c < A := by omega
  have a6 : P ≤ A := by omega
  have a7 : ¬ c = P := by omega
  have a8 : ¬ A = P := by omega
  have t1 : (0 : Int) ≤ (P : Int) := by omega
  have t2 : (P : Int) ≤ (n : Int) := by omega
  have t3 : (10 : Int) ≤ (n : Int) - (P : Int) := by omega
  have bW0 : Below w.heap.size w (w.alloc (.cells #[.int .i64 0, .string ⟨#[]⟩] 33)) := (Below.refl _ _).alloc (Nat.le_refl _) _
  have bD : Below w.heap.size w (w.alloc (.cells #[.int .i64 0, .string ⟨#[]⟩] 33)).drew := bW0.drew
  have qT : Hid (∀ w', Calls Try.prog 40 #[.int .i64 (s : Int)] w' fun e w'' => e = .returned (.bool true) ∧ w'' = w') := fun w' => by
    have := textSizeOk_any (s : Int) w'
    rwa [show (decide ((1 : Int) ≤ (s : Int)) && decide ((s : Int) ≤ 1000)) = true by simp; omega] at this
  have qN : Hid (∀ w', Calls Try.prog 39 #[.int .i64 num] w' fun e w'' => e = .returned (.bool true) ∧ w'' = w') := fun w' => by
    have := seqOk_any num w'
    rwa [show (decide ((1 : Int) ≤ num) && decide (num ≤ 1000000000)) = true by simp; omega] at this
  have z1 : s ≤ n - A := by omega
  have z3 : (s : Int) ≤ ((n - A : Nat) : Int) := by omega
  have hcA : ¬ c = A := by omega
  have g3 : Hid (∀ w' cp, Below w.heap.size w w' → Calls Try.prog 47 #[.slice (some ⟨b, off + P, none⟩) 10 cp, .int .i64 6, .int .i64 4] w' fun e w'' => e = .returned (.tuple #[.int .i64 sm, .bool true]) ∧ w'' = w') := fun w' cp hb' => by
    rw [← hsm, show gnum zs (P + 6) 4 = gnum (cutL zs P 10) 6 4 from (gnum_cut zs P 10 6 4 (by omega)).symm]; exact implGet_yes _ 10 cp _ 6 4 w' hl10 (HH.out w' hb') (by omega) (by omega) (by omega) (by omega)
  obtain ⟨C, hC⟩ : ∃ C, C = crcI (cutL zs P 6 ++ cutL zs A s) := ⟨_, rfl⟩
  have qS : Hid (∀ w', Below w.heap.size w w' → Calls Try.prog 31 #[.slice (some ⟨b, off + P, none⟩) 6 (c - P), .slice (some ⟨b, off + A, none⟩) s (c - A)] w' fun e w'' => e = .returned (.int .i64 C) ∧ Below w'.heap.size w' w'') := fun w' hb' => by
    rw [hC]
    exact frameSum_any _ 6 (c - P) (cutL zs P 6) _ s (cutL zs A s) w' (cutL_len _ _ _ (by omega)) (rd_cut (Nat.lt_of_lt_of_le hb hb'.size) hz hl (HC.out w' hb') P 6 (by omega)) (src_cut hl (HC.out w' hb') A s (c - A) (by omega)) (cutL_len _ _ _ (by omega)) (byt_cutL zs hz _ _) (by omega) (by omega)
  have bD1 : Below w.heap.size w (w.alloc (.cells #[.int .i64 0, .string ⟨#[]⟩] 33)).drew.drew := bD.drew
  have hq : (sm == C) = true := by rw [hC, hA]; simpa using h6
  have x1 : (6 : Nat) ≤ c - P := by omega
  have x3 : ¬ (((c - P : Nat) : Int) < 6) := by omega
  have x4 : ¬ (((c - A : Nat) : Int) < (s : Int)) := by omega
  have x2 : s ≤ c - A := by omega
  obtain ⟨tx, htx⟩ : ∃ tx, tx = strOfNums (cutL zs A s) := ⟨_, rfl⟩
  have qV : Hid (∀ w', Below w.heap.size w w' → (convert 22 9 (.slice (some ⟨b, off + A, none⟩) s (c - A))).run Try.prog w' = .ok (.string tx) w') := fun w' hb' => by rw [htx]; exact cut_conv b off n (c - A) zs A s w' (HC.out w' hb') (by omega) hl
  obtain ⟨Z, hZ⟩ : ∃ Z : Nat, Z = A + s := ⟨_, rfl⟩
  have a9 : (A : Int) + (s : Int) = (Z : Int) := by omega
  have aw9 : IntKind.i64.wrap (Z : Int) = (Z : Int) := wrap_i64_in _ (by omega) (by omega)
  rw [← hA, ← htx, a1, a9]
  have hbox : (w.alloc (.cells #[.int .i64 0, .string ⟨#[]⟩] 33)).drew.drew.heap[w.heap.size]? = some (.cells #[.int .i64 0, .string ⟨#[]⟩] 33 (0, 0)) := heap_alloc_new w _
  have zlt : w.heap.size < (w.alloc (.cells #[.int .i64 0, .string ⟨#[]⟩] 33)).drew.drew.heap.size := by simp
  have HB : Hid (∀ w', Below (w.alloc (.cells #[.int .i64 0, .string ⟨#[]⟩] 33)).drew.drew.heap.size (w.alloc (.cells #[.int .i64 0, .string ⟨#[]⟩] 33)).drew.drew w' → w'.heap[w.heap.size]? = some (.cells #[.int .i64 0, .string ⟨#[]⟩] 33 (0, 0))) := fun w' h' => (h'.block _ zlt).trans hbox
  clear HC HH hl10 hc hl hz hs hnum hsm hA hC h6 htx hZ hbox zlt
  go_enter Try.func34, Try.ntmps34
  go_wp2_with fail
  refine (need_yes 1 _).mono ?_
  rintro e w9 ⟨rfl, rfl⟩
  go_wp2_with fail
  refine (need_yes 2 _).mono ?_
  rintro e w9 ⟨rfl, rfl⟩
  go_wp2_with fail
  refine wp_region_held_drew (S := fun w' => True) (by kernel_rfl) trivial (fun hHeld => ?_)
  refine wpAnyH_take (i := 0) (v := .slice (some ⟨b, off, none⟩) n c) rfl (by kernel_rfl) (by kernel_rfl) (by kernel_rfl) (fun _ _ _ h => h) (Or.inl ⟨by kernel_rfl, ?_⟩) (by assumption) ?_
  · intro w9 hSw; (try dsimp only at hSw); go_simp
  simp only [Act.put, List.getElem_toArray, List.getElem_cons_succ, List.getElem_cons_zero, List.setIfInBounds_toArray, List.set_cons_zero, List.set_cons_succ]
  refine wpAnyH_take (i := 1) (v := .int .i64 P) rfl (by kernel_rfl) (by kernel_rfl) (by kernel_rfl) (fun _ _ _ h => h) (Or.inl ⟨by kernel_rfl, ?_⟩) (by assumption) ?_
  · intro w9 hSw; (try dsimp only at hSw); go_simp
  simp only [Act.put, List.getElem_toArray, List.getElem_cons_succ, List.getElem_cons_zero, List.setIfInBounds_toArray, List.set_cons_zero, List.set_cons_succ]
  refine wpAnyH_take (i := 2) (v := .int .i64 P) rfl (by kernel_rfl) (by kernel_rfl) (by kernel_rfl) (fun _ _ _ h => h) (Or.inl ⟨by kernel_rfl, ?_⟩) (by assumption) ?_
  · intro w9 hSw; (try dsimp only at hSw); go_simp
  simp only [Act.put, List.getElem_toArray, List.getElem_cons_succ, List.getElem_cons_zero, List.setIfInBounds_toArray, List.set_cons_zero, List.set_cons_succ]
  refine wpAnyH_take (i := 3) (v := .int .i64 A) rfl (by kernel_rfl) (by kernel_rfl) (by kernel_rfl) (fun _ _ _ h => h) (Or.inl ⟨by kernel_rfl, ?_⟩) (by assumption) ?_
  · intro w9 hSw; (try dsimp only at hSw); go_simp
  simp only [Act.put, List.getElem_toArray, List.getElem_cons_succ, List.getElem_cons_zero, List.setIfInBounds_toArray, List.set_cons_zero, List.set_cons_succ]
  refine wpAnyH_take (i := 4) (v := .slice (some ⟨b, off + P, none⟩) 10 (c - P)) rfl (by kernel_rfl) (by kernel_rfl) (by kernel_rfl) (fun _ _ _ h => h) (Or.inl ⟨by kernel_rfl, ?_⟩) (by assumption) ?_
  · intro w9 hSw; (try dsimp only at hSw); go_simp
  simp only [Act.put, List.getElem_toArray, List.getElem_cons_succ, List.getElem_cons_zero, List.setIfInBounds_toArray, List.set_cons_zero, List.set_cons_succ]
  refine wpAnyH_take (i := 5) (v := .slice (some ⟨b, off, none⟩) n c) rfl (by kernel_rfl) (by kernel_rfl) (by kernel_rfl) (fun _ _ _ h => h) (Or.inl ⟨by kernel_rfl, ?_⟩) (by assumption) ?_
  · intro w9 hSw; (try dsimp only at hSw); go_simp
  simp only [Act.put, List.getElem_toArray, List.getElem_cons_succ, List.getElem_cons_zero, List.setIfInBounds_toArray, List.set_cons_zero, List.set_cons_succ]
  refine wpAnyH_take (i := 6) (v := .int .i64 P) rfl (by kernel_rfl) (by kernel_rfl) (by kernel_rfl) (fun _ _ _ h => h) (Or.inl ⟨by kernel_rfl, ?_⟩) (by assumption) ?_
  · intro w9 hSw; (try dsimp only at hSw); go_simp
  simp only [Act.put, List.getElem_toArray, List.getElem_cons_succ, List.getElem_cons_zero, List.setIfInBounds_toArray, List.set_cons_zero, List.set_cons_succ]
  refine wpAnyH_take (i := 7) (v := .int .i64 A) rfl (by kernel_rfl) (by kernel_rfl) (by kernel_rfl) (fun _ _ _ h => h) (Or.inl ⟨by kernel_rfl, ?_⟩) (by assumption) ?_
  · intro w9 hSw; (try dsimp only at hSw); go_simp
  simp only [Act.put, List.getElem_toArray, List.getElem_cons_succ, List.getElem_cons_zero, List.setIfInBounds_toArray, List.set_cons_zero, List.set_cons_succ]
  refine wpAnyH_take (i := 8) (v := .slice (some ⟨b, off + A, none⟩) (n - A) (c - A)) rfl (by kernel_rfl) (by kernel_rfl) (by kernel_rfl) (fun _ _ _ h => h) (Or.inl ⟨by kernel_rfl, ?_⟩) (by assumption) ?_
  · intro w9 hSw; (try dsimp only at hSw); go_simp
  simp only [Act.put, List.getElem_toArray, List.getElem_cons_succ, List.getElem_cons_zero, List.setIfInBounds_toArray, List.set_cons_zero, List.set_cons_succ]
  refine wpAnyH_take (i := 9) (v := .slice (some ⟨b, off + P, none⟩) 10 (c - P)) rfl (by kernel_rfl) (by kernel_rfl) (by kernel_rfl) (fun _ _ _ h => h) (Or.inl ⟨by kernel_rfl, ?_⟩) (by assumption) ?_
  · intro w9 hSw; (try dsimp only at hSw); go_simp
  simp only [Act.put, List.getElem_toArray, List.getElem_cons_succ, List.getElem_cons_zero, List.setIfInBounds_toArray, List.set_cons_zero, List.set_cons_succ]
  refine wpAnyH_take (i := 10) (v := .slice (some ⟨b, off + A, none⟩) (n - A) (c - A)) rfl (by kernel_rfl) (by kernel_rfl) (by kernel_rfl) (fun _ _ _ h => h) (Or.inl ⟨by kernel_rfl, ?_⟩) (by assumption) ?_
  · intro w9 hSw; (try dsimp only at hSw); go_simp
  simp only [Act.put, List.getElem_toArray, List.getElem_cons_succ, List.getElem_cons_zero, List.setIfInBounds_toArray, List.set_cons_zero, List.set_cons_succ]
  refine wpAnyH_done (by kernel_rfl) ?_ _
  go_wp2_with fail
  refine (g1.out _ _ bD).mono ?_
  rintro e w1 ⟨rfl, rfl⟩
  go_wp2_with fail
  refine (qT.out _).mono ?_
  rintro e w1 ⟨rfl, rfl⟩
  go_wp2_with fail
  refine (need_yes 3 _).mono ?_
  rintro e w9 ⟨rfl, rfl⟩
  go_wp2_with fail
  refine (need_yes 4 _).mono ?_
  rintro e w9 ⟨rfl, rfl⟩
  go_wp2_with fail
  refine (g2.out _ _ bD).mono ?_
  rintro e w1 ⟨rfl, rfl⟩
  go_wp2_with fail
  refine (qN.out _).mono ?_
  rintro e w1 ⟨rfl, rfl⟩
  go_wp2_with fail
  refine (need_yes 5 _).mono ?_
  rintro e w9 ⟨rfl, rfl⟩
  go_wp2_with fail
  refine (g3.out _ _ bD).mono ?_
  rintro e w1 ⟨rfl, rfl⟩
  go_wp2_with fail
  refine wp_region_held_drew (S := fun w' => True) (by kernel_rfl) trivial (fun hHeld => ?_)
  refine wpAnyH_take (i := 0) (v := .int .i64 sm) rfl (by kernel_rfl) (by kernel_rfl) (by kernel_rfl) (fun _ _ _ h => h) (Or.inl ⟨by kernel_rfl, ?_⟩) (by assumption) ?_
  · intro w9 hSw; (try dsimp only at hSw); go_simp
  simp only [Act.put, List.getElem_toArray, List.getElem_cons_succ, List.getElem_cons_zero, List.setIfInBounds_toArray, List.set_cons_zero, List.set_cons_succ]
  refine wpAnyH_take (i := 1) (v := .slice (some ⟨b, off + P, none⟩) 10 (c - P)) rfl (by kernel_rfl) (by kernel_rfl) (by kernel_rfl) (fun _ _ _ h => h) (Or.inl ⟨by kernel_rfl, ?_⟩) (by assumption) ?_
  · intro w9 hSw; (try dsimp only at hSw); go_simp
  simp only [Act.put, List.getElem_toArray, List.getElem_cons_succ, List.getElem_cons_zero, List.setIfInBounds_toArray, List.set_cons_zero, List.set_cons_succ]
  refine wpAnyH_take (i := 2) (v := .slice (some ⟨b, off + P, none⟩) 6 (c - P)) rfl (by kernel_rfl) (by kernel_rfl) (by kernel_rfl) (fun _ _ _ h => h) (Or.inl ⟨by kernel_rfl, ?_⟩) (by assumption) ?_
  · intro w9 hSw; (try dsimp only at hSw); go_simp
  simp only [Act.put, List.getElem_toArray, List.getElem_cons_succ, List.getElem_cons_zero, List.setIfInBounds_toArray, List.set_cons_zero, List.set_cons_succ]
  refine wpAnyH_take (i := 3) (v := .slice (some ⟨b, off + A, none⟩) (n - A) (c - A)) rfl (by kernel_rfl) (by kernel_rfl) (by kernel_rfl) (fun _ _ _ h => h) (Or.inl ⟨by kernel_rfl, ?_⟩) (by assumption) ?_
  · intro w9 hSw; (try dsimp only at hSw); go_simp
  simp only [Act.put, List.getElem_toArray, List.getElem_cons_succ, List.getElem_cons_zero, List.setIfInBounds_toArray, List.set_cons_zero, List.set_cons_succ]
  refine wpAnyH_take (i := 4) (v := .int .i64 s) rfl (by kernel_rfl) (by kernel_rfl) (by kernel_rfl) (fun _ _ _ h => h) (Or.inl ⟨by kernel_rfl, ?_⟩) (by assumption) ?_
  · intro w9 hSw; (try dsimp only at hSw); go_simp
  simp only [Act.put, List.getElem_toArray, List.getElem_cons_succ, List.getElem_cons_zero, List.setIfInBounds_toArray, List.set_cons_zero, List.set_cons_succ]
  refine wpAnyH_take (i := 5) (v := .slice (some ⟨b, off + A, none⟩) s (c - A)) rfl (by kernel_rfl) (by kernel_rfl) (by kernel_rfl) (fun _ _ _ h => h) (Or.inl ⟨by kernel_rfl, ?_⟩) (by assumption) ?_
  · intro w9 hSw; (try dsimp only at hSw); go_simp
  simp only [Act.put, List.getElem_toArray, List.getElem_cons_succ, List.getElem_cons_zero, List.setIfInBounds_toArray, List.set_cons_zero, List.set_cons_succ]
  refine wpAnyH_ready (rs := [6]) (by kernel_rfl) (by simp) ?_
  refine AllReadyH.cons rfl (fun K hK => ?_) AllReadyH.nil
  go_simp
  refine (qS.out _ bD1).mono ?_
  rintro e w5 ⟨rfl, hb5⟩
  go_wp2_with fail
  refine hK.out _ _ trivial (fun hHeld6 => ?_)
  clear hK
  refine wpAnyH_take (i := 7) (v := .bool true) rfl (by kernel_rfl) (by kernel_rfl) (by kernel_rfl) (fun _ _ _ h => h) (Or.inl ⟨by kernel_rfl, ?_⟩) (by assumption) ?_
  · intro w9 hSw; (try dsimp only at hSw); go_simp
  simp only [Act.put, List.getElem_toArray, List.getElem_cons_succ, List.getElem_cons_zero, List.setIfInBounds_toArray, List.set_cons_zero, List.set_cons_succ]
  refine wpAnyH_ready (rs := [8]) (by kernel_rfl) (by simp) ?_
  refine AllReadyH.cons rfl (fun K hK => ?_) AllReadyH.nil
  go_simp
  refine (need_yes 6 _).mono ?_
  rintro e w9 ⟨rfl, rfl⟩
  go_wp2_with fail
  have hA5 := HB.out w9 hb5
  have b5 : Below w.heap.size w w9 := bD1.trans (hb5.mono bD1.size)
  have cV := qV.out w9 b5
  have u0 : w9.cell? ⟨w.heap.size, 0, none⟩ = some (.int .i64 0) := box_cell hA5 rfl
  have u1 : w9.cell? ⟨w.heap.size, 1, none⟩ = some (.string ⟨#[]⟩) := box_cell hA5 rfl
  have f0 : w9.frozen? ⟨w.heap.size, 0, none⟩ = false := box_frozen hA5
  have f1 : w9.frozen? ⟨w.heap.size, 1, none⟩ = false := box_frozen hA5
  have r0 : (w9.setCell ⟨w.heap.size, 0, none⟩ (.int .i64 num)).cell? ⟨w.heap.size, 0, none⟩ = some (.int .i64 num) := box_cell (box_set (.int .i64 num) hA5) rfl
  have r1 : ((w9.setCell ⟨w.heap.size, 0, none⟩ (.int .i64 num)).setCell ⟨w.heap.size, 1, none⟩ (.string tx)).cell? ⟨w.heap.size, 1, none⟩ = some (.string tx) := box_cell (box_set (.string tx) (box_set (.int .i64 num) hA5)) rfl
  have hws : w.heap.size < w9.heap.size := lt_heap hA5
  have bS : Below w.heap.size w ((w9.setCell ⟨w.heap.size, 0, none⟩ (.int .i64 num)).setCell ⟨w.heap.size, 1, none⟩ (.string tx)) := (b5.setCell (Nat.le_refl _) _).setCell (Nat.le_refl _) _
  clear hA5 HB qV hb5
  refine hK.out _ _ trivial (fun hHeld8 => ?_)
  clear hK
  refine wpAnyH_done (by kernel_rfl) ?_ _
  go_wp2
  (try simp only [Exit.inBlock, Exit.then])
  refine bodyPost_ret (by simp [results, Try.results34, go_sem, r0, r1]; try rfl) rfl ?_
  exact ⟨rfl, bS⟩

end Go.Proofs.Ytbjmjmammpgbmaa

/- CatchI: The deferred closure of FrameRead: of a frame that gives up with a fault it makes the code; of a frame that returns it does nothing. -/
namespace Go.Proofs.Ytbjmjmammpgbmaa
open Go.RowKit
set_option linter.unusedVariables false

theorem assert_fault (k : Int) (w : World) : (Instr.typeAssert (.iface 55 (.int .i64 k)) 20 55 true).run Try.prog w = .ok (.tuple #[.int .i64 k, .bool true]) w := by
  kernel_rfl

theorem assert_nil (w : World) : (Instr.typeAssert .nilIface 20 55 true).run Try.prog w = .ok (.tuple #[.int .i64 0, .bool false]) w := by
  kernel_rfl

set_option maxHeartbeats 1000000 in
theorem catch_panicking (p : Addr) (x k : Int) (older : List PanicEntry) (w : World) (hc : w.cell? p = some (.int .i64 x)) (hz : w.frozen? p = false) :
    CallsD Try.prog 33 #[.pointer (some p)] (.panicking ({ v := .iface 55 (.int .i64 k), recovered := false } :: older)) w fun e u' w' =>
      e = .returned (.tuple #[]) ∧ u' = .panicking ({ v := .iface 55 (.int .i64 k), recovered := true } :: older) ∧ w' = w.setCell p (.int .i64 k) := by
  refine callsD_of_wpS Try.func33 rfl fun c₀ cs hu => ?_
  apply wpS_seq
  apply wpS_region
  simp [wpOpsS, go_sem, recoverD, hu, Try.ntmps33, Exit.thenS, assert_fault]
  apply wpS_seq
  apply wpS_region
  simp [wpOpsS, go_sem, Exit.thenS]
  refine wpS_cond (t := true) (by simp [Act.eval, Array.replicate]) ?_
  simp only [if_true]
  apply wpS_region
  simp [wpOpsS, go_sem, hc, hz, bodyPostS, results, Try.results33, Array.replicate]

set_option maxHeartbeats 1000000 in
theorem catch_idle (p : Addr) (w : World) :
    CallsD Try.prog 33 #[.pointer (some p)] .returning w fun e u' w' => e = .returned (.tuple #[]) ∧ u' = .returning ∧ w' = w := by
  refine callsD_of_wpS Try.func33 rfl fun c₀ cs hu => ?_
  apply wpS_seq
  apply wpS_region
  simp [wpOpsS, go_sem, recoverD, hu, Try.ntmps33, Exit.thenS, assert_nil]
  apply wpS_seq
  apply wpS_region
  simp [wpOpsS, go_sem, Exit.thenS]
  refine wpS_cond (t := false) (by simp [Act.eval, Array.replicate]) ?_
  simp only [Bool.false_eq_true, if_false]
  refine wpS_of_wp (wp_skip ?_)
  cases c₀
  simp_all [bodyPostS, results, Try.results33]

end Go.Proofs.Ytbjmjmammpgbmaa

/- RfI: FrameRead of the program: what readFrame gives up with becomes the code. -/
namespace Go.Proofs.Ytbjmjmammpgbmaa
open Go.RowKit
set_option linter.unusedVariables false
set_option linter.unusedSimpArgs false

set_option maxRecDepth 100000 in
set_option maxHeartbeats 2000000 in
theorem implRf_pan (x : Value) (p k : Int) (w : World) (h : ∀ w', Below w.heap.size w w' → Calls Try.prog 34 #[x, .int .i64 p] w' fun e w'' => e = .panicked [{ v := .iface 55 (.int .i64 k), recovered := false }] ∧ Below w'.heap.size w' w'') :
    Calls Try.prog 15 #[x, .int .i64 p] w fun e w' => e = .returned (.tuple #[.agg #[.int .i64 0, .string ⟨#[]⟩], .int .i64 0, .int .i64 k]) ∧ Below w.heap.size w w' := by
  have hmf : ∀ (fn : Fn) (first cap : Array Value) (w : World), (Instr.makeFunc fn first cap).run Try.prog w = .ok (.func fn first cap) w := fun _ _ _ _ => rfl
  have q : Hid (∀ w', Below w.heap.size w w' → Calls Try.prog 34 #[x, .int .i64 p] w' fun e w'' => e = .panicked [{ v := .iface 55 (.int .i64 k), recovered := false }] ∧ Below w'.heap.size w' w'') := h
  clear h
  obtain ⟨W, hW⟩ : ∃ W, W = (w.alloc (.cells #[.int .i64 0, .string ⟨#[]⟩] 33)).alloc (.cells #[.int .i64 0] 3) := ⟨_, rfl⟩
  have bW : Below w.heap.size w W := by rw [hW]; exact ((Below.refl _ _).alloc (Nat.le_refl _) _).alloc (by simp) _
  have hA : W.heap[w.heap.size]? = some (.cells #[.int .i64 0, .string ⟨#[]⟩] 33 (0, 0)) := by rw [hW]; exact (heap_alloc_old _ _ (by simp)).trans (heap_alloc_new w _)
  have hB : W.heap[w.heap.size + 1]? = some (.cells #[.int .i64 0] 3 (0, 0)) := by
    have h9 := heap_alloc_new (w.alloc (.cells #[.int .i64 0, .string ⟨#[]⟩] 33)) (.cells #[.int .i64 0] 3)
    rw [hW]; simpa using h9
  have HW : Hid (W = (w.alloc (.cells #[.int .i64 0, .string ⟨#[]⟩] 33)).alloc (.cells #[.int .i64 0] 3)) := hW
  have zA : w.heap.size < W.heap.size := lt_heap hA
  have zB : w.heap.size + 1 < W.heap.size := lt_heap hB
  clear hW
  go_enter_defers Try.func15, Try.ntmps15
  go_wp2_with fail
  rw [← HW.out]
  refine (q.out _ bW).mono ?_
  rintro e w1 ⟨rfl, hb1⟩
  have b1 := bW.trans (hb1.mono bW.size)
  have hA1 := (hb1.block _ zA).trans hA
  have hB1 := (hb1.block _ zB).trans hB
  have hne : ¬ w.heap.size = w.heap.size + 1 := by omega
  have hA2 := (box_other (w := w1) (b := w.heap.size + 1) (j := 0) (.int .i64 k) (k := w.heap.size) (by omega)).trans hA1
  have hB2 := box_set (w := w1) (j := 0) (.int .i64 k) hB1
  have e0 : (w1.setCell ⟨w.heap.size + 1, 0, none⟩ (.int .i64 k)).cell? ⟨w.heap.size, 0, none⟩ = some (.int .i64 0) := box_cell hA2 rfl
  have e1 : (w1.setCell ⟨w.heap.size + 1, 0, none⟩ (.int .i64 k)).cell? ⟨w.heap.size, 1, none⟩ = some (.string ⟨#[]⟩) := box_cell hA2 rfl
  have e2 : (w1.setCell ⟨w.heap.size + 1, 0, none⟩ (.int .i64 k)).cell? ⟨w.heap.size + 1, 0, none⟩ = some (.int .i64 k) := box_cell hB2 rfl
  have bE : Below w.heap.size w (w1.setCell ⟨w.heap.size + 1, 0, none⟩ (.int .i64 k)) := b1.setCell (by show w.heap.size ≤ w.heap.size + 1; omega) _
  go_wp2_with fail
  refine leaves_cons (f := 33) (args := #[.pointer (some ⟨w.heap.size + 1, 0, none⟩)]) (by simp) (by simp [go_sem]) ?_
  refine (catch_panicking ⟨w.heap.size + 1, 0, none⟩ 0 k [] _ (box_cell hB1 rfl) (box_frozen hB1)).mono ?_
  rintro e u' w'' ⟨rfl, rfl, rfl⟩
  simp [Leaves, settle, results, Try.results15, go_sem, e0, e1, e2]
  exact bE

set_option maxRecDepth 100000 in
set_option maxHeartbeats 2000000 in
theorem implRf_ret (x : Value) (p x0 : Int) (x1 : ByteArray) (nx : Int) (w : World) (h : ∀ w', Below w.heap.size w w' → Calls Try.prog 34 #[x, .int .i64 p] w' fun e w'' => e = .returned (.tuple #[.agg #[.int .i64 x0, .string x1], .int .i64 nx]) ∧ Below w'.heap.size w' w'') :
    Calls Try.prog 15 #[x, .int .i64 p] w fun e w' => e = .returned (.tuple #[.agg #[.int .i64 x0, .string x1], .int .i64 nx, .int .i64 0]) ∧ Below w.heap.size w w' := by
  have hmf : ∀ (fn : Fn) (first cap : Array Value) (w : World), (Instr.makeFunc fn first cap).run Try.prog w = .ok (.func fn first cap) w := fun _ _ _ _ => rfl
  have q : Hid (∀ w', Below w.heap.size w w' → Calls Try.prog 34 #[x, .int .i64 p] w' fun e w'' => e = .returned (.tuple #[.agg #[.int .i64 x0, .string x1], .int .i64 nx]) ∧ Below w'.heap.size w' w'') := h
  clear h
  obtain ⟨W, hW⟩ : ∃ W, W = (w.alloc (.cells #[.int .i64 0, .string ⟨#[]⟩] 33)).alloc (.cells #[.int .i64 0] 3) := ⟨_, rfl⟩
  have bW : Below w.heap.size w W := by rw [hW]; exact ((Below.refl _ _).alloc (Nat.le_refl _) _).alloc (by simp) _
  have hA : W.heap[w.heap.size]? = some (.cells #[.int .i64 0, .string ⟨#[]⟩] 33 (0, 0)) := by rw [hW]; exact (heap_alloc_old _ _ (by simp)).trans (heap_alloc_new w _)
  have hB : W.heap[w.heap.size + 1]? = some (.cells #[.int .i64 0] 3 (0, 0)) := by
    have h9 := heap_alloc_new (w.alloc (.cells #[.int .i64 0, .string ⟨#[]⟩] 33)) (.cells #[.int .i64 0] 3)
    rw [hW]; simpa using h9
  have HW : Hid (W = (w.alloc (.cells #[.int .i64 0, .string ⟨#[]⟩] 33)).alloc (.cells #[.int .i64 0] 3)) := hW
  have zA : w.heap.size < W.heap.size := lt_heap hA
  have zB : w.heap.size + 1 < W.heap.size := lt_heap hB
  clear hW
  go_enter_defers Try.func15, Try.ntmps15
  go_wp2_with fail
  rw [← HW.out]
  refine (q.out _ bW).mono ?_
  rintro e w1 ⟨rfl, hb1⟩
  have b1 := bW.trans (hb1.mono bW.size)
  have hA1 := (hb1.block _ zA).trans hA
  have hB1 := (hb1.block _ zB).trans hB
  have u0 : w1.cell? ⟨w.heap.size, 0, none⟩ = some (.int .i64 0) := box_cell hA1 rfl
  have u1 : w1.cell? ⟨w.heap.size, 1, none⟩ = some (.string ⟨#[]⟩) := box_cell hA1 rfl
  have f0 : w1.frozen? ⟨w.heap.size, 0, none⟩ = false := box_frozen hA1
  have f1 : w1.frozen? ⟨w.heap.size, 1, none⟩ = false := box_frozen hA1
  have u2 : w1.cell? ⟨w.heap.size + 1, 0, none⟩ = some (.int .i64 0) := box_cell hB1 rfl
  have f2 : w1.frozen? ⟨w.heap.size + 1, 0, none⟩ = false := box_frozen hB1
  have s1 := box_set (w := w1) (j := 0) (.int .i64 x0) hA1
  have s2 := box_set (j := 1) (.string x1) s1
  have s3 := box_set (j := 0) (.int .i64 x0) s2
  have s4 := box_set (j := 1) (.string x1) s3
  have s5 := (box_other (b := w.heap.size + 1) (j := 0) (.int .i64 0) (k := w.heap.size) (by omega)).trans s4
  have o1 := (box_other (w := w1) (b := w.heap.size) (j := 0) (.int .i64 x0) (k := w.heap.size + 1) (by omega)).trans hB1
  have o2 := (box_other (b := w.heap.size) (j := 1) (.string x1) (k := w.heap.size + 1) (by omega)).trans o1
  have o3 := (box_other (b := w.heap.size) (j := 0) (.int .i64 x0) (k := w.heap.size + 1) (by omega)).trans o2
  have o4 := (box_other (b := w.heap.size) (j := 1) (.string x1) (k := w.heap.size + 1) (by omega)).trans o3
  have o5 := box_set (j := 0) (.int .i64 0) o4
  have bE : Below w.heap.size w (((((w1.setCell ⟨w.heap.size, 0, none⟩ (.int .i64 x0)).setCell ⟨w.heap.size, 1, none⟩ (.string x1)).setCell ⟨w.heap.size, 0, none⟩ (.int .i64 x0)).setCell ⟨w.heap.size, 1, none⟩ (.string x1)).setCell ⟨w.heap.size + 1, 0, none⟩ (.int .i64 0)) :=
    ((((b1.setCell (Nat.le_refl _) _).setCell (Nat.le_refl _) _).setCell (Nat.le_refl _) _).setCell (Nat.le_refl _) _).setCell (by show w.heap.size ≤ w.heap.size + 1; omega) _
  have E1 : Hid _ := s5
  have E2 : Hid _ := o5
  have BE : Hid (Below w.heap.size w (((((w1.setCell ⟨w.heap.size, 0, none⟩ (.int .i64 x0)).setCell ⟨w.heap.size, 1, none⟩ (.string x1)).setCell ⟨w.heap.size, 0, none⟩ (.int .i64 x0)).setCell ⟨w.heap.size, 1, none⟩ (.string x1)).setCell ⟨w.heap.size + 1, 0, none⟩ (.int .i64 0))) := bE
  clear s1 s2 s3 s4 s5 o1 o2 o3 o4 o5 bE
  go_wp2
  refine leaves_cons (f := 33) (args := #[.pointer (some ⟨w.heap.size + 1, 0, none⟩)]) (by simp) (by simp [go_sem]) ?_
  refine (catch_idle ⟨w.heap.size + 1, 0, none⟩ _).mono ?_
  rintro e u' w'' ⟨rfl, rfl, hw''⟩
  rw [hw'']
  obtain ⟨WE, hWE⟩ : ∃ WE, WE = ((((w1.setCell ⟨w.heap.size, 0, none⟩ (.int .i64 x0)).setCell ⟨w.heap.size, 1, none⟩ (.string x1)).setCell ⟨w.heap.size, 0, none⟩ (.int .i64 x0)).setCell ⟨w.heap.size, 1, none⟩ (.string x1)).setCell ⟨w.heap.size + 1, 0, none⟩ (.int .i64 0) := ⟨_, rfl⟩
  have k1 := E1.out
  have k2 := E2.out
  have k3 := BE.out
  rw [← hWE] at k1 k2 k3 ⊢
  have c0 : WE.cell? ⟨w.heap.size, 0, none⟩ = some (.int .i64 x0) := box_cell k1 rfl
  have c1 : WE.cell? ⟨w.heap.size, 1, none⟩ = some (.string x1) := box_cell k1 rfl
  have c2 : WE.cell? ⟨w.heap.size + 1, 0, none⟩ = some (.int .i64 0) := box_cell k2 rfl
  simp [Leaves, settle, results, Try.results15, go_sem, c0, c1, c2]
  exact k3

end Go.Proofs.Ytbjmjmammpgbmaa

/- RfAI: FrameRead of the program answers frAns. -/
namespace Go.Proofs.Ytbjmjmammpgbmaa
open Go.RowKit
set_option linter.unusedVariables false

theorem rf_impl (v : Value) (zs : List Int) (p : Int) (w : World) (h : Reads (.sl .u8) w [v] zs) (hn : zs.length ≤ 1048576) (hp1 : -9223372036854775808 ≤ p) (hp2 : p ≤ 9223372036854775807) :
    Calls Try.prog 15 #[v, .int .i64 p] w fun e w' => e = .returned (.tuple #[.agg #[.int .i64 (frAns zs p).1, .string (frAns zs p).2.1], .int .i64 (frAns zs p).2.2.1, .int .i64 (frAns zs p).2.2.2]) ∧ Below w.heap.size w w' := by
  obtain ⟨a, c, hv, hcn, hcm⟩ := reads_val h
  have hv' : v = .slice a zs.length c := hv
  subst hv'
  obtain ⟨_, hrd, _, _⟩ := reads_bytes h
  by_cases h1 : p < 0
  · have e : frAns zs p = (0, ByteArray.empty, 0, 1) := by unfold frAns; rw [if_pos (by omega)]
    rw [e]; exact implRf_pan _ p 1 w fun w' hb' => readRf_near a _ c p w' hn hp1 hp2 1 (.inl ⟨h1, rfl⟩)
  by_cases h2 : (zs.length : Int) < p
  · have e : frAns zs p = (0, ByteArray.empty, 0, 1) := by unfold frAns; rw [if_pos (by omega)]
    rw [e]; exact implRf_pan _ p 1 w fun w' hb' => readRf_near a _ c p w' hn hp1 hp2 1 (.inr (.inl ⟨h1, h2, rfl⟩))
  by_cases h3 : (zs.length : Int) - p < 10
  · have e : frAns zs p = (0, ByteArray.empty, 0, 2) := by unfold frAns; rw [if_neg (by omega), if_pos h3]
    rw [e]; exact implRf_pan _ p 2 w fun w' hb' => readRf_near a _ c p w' hn hp1 hp2 2 (.inr (.inr ⟨h1, h2, h3, rfl⟩))
  obtain ⟨P, rfl⟩ := Int.eq_ofNat_of_zero_le (show 0 ≤ p by omega)
  have hne : zs ≠ [] := by intro h9; subst h9; simp at h3; omega
  obtain ⟨b, off, rfl, hb, hc⟩ := hrd.2.resolve_left hne
  have hz : Byt zs := hrd.1
  have hs := gnum2_bd zs hz P
  obtain ⟨s, hs'⟩ := Int.eq_ofNat_of_zero_le hs.1
  obtain ⟨num, hnum⟩ : ∃ num, gnum zs (P + 2) 4 = num := ⟨_, rfl⟩
  obtain ⟨sm, hsm⟩ : ∃ sm, gnum zs (P + 6) 4 = sm := ⟨_, rfl⟩
  have eP : ((P : Int)).toNat = P := by omega
  have es : ((s : Int)).toNat = s := by omega
  have HC : ∀ w', Below w.heap.size w w' → ∀ i, i < zs.length → w'.cell? ⟨b, off + i, none⟩ = some (.int .u8 (zs[i]?.getD 0)) := fun w' hb' i hi => (hb'.cell (p := ⟨b, off + i, none⟩) hb).trans (hc i hi)
  have HB : ∀ w', Below w.heap.size w w' → b < w'.heap.size := fun w' hb' => Nat.lt_of_lt_of_le hb hb'.size
  have hP : P + 10 ≤ zs.length := by omega
  by_cases h4 : s = 0 ∨ 1000 < s
  · have e : frAns zs (P : Int) = (0, ByteArray.empty, 0, 3) := by
      unfold frAns; rw [eP, hs', if_neg (by omega), if_neg (by omega), if_pos (by omega)]
    rw [e]; exact implRf_pan _ _ 3 w fun w' hb' => readRf_3 b off _ c zs P s num w' rfl (HB w' hb') (HC w' hb') hz hcn hcm hn hP hs' hnum h4
  by_cases h5 : (zs.length : Int) - (P : Int) - 10 < (s : Int)
  · have e : frAns zs (P : Int) = (0, ByteArray.empty, 0, 4) := by
      unfold frAns; rw [eP, hs', if_neg (by omega), if_neg (by omega), if_neg (by omega), if_pos h5]
    rw [e]; exact implRf_pan _ _ 4 w fun w' hb' => readRf_4 b off _ c zs P s num w' rfl (HB w' hb') (HC w' hb') hz hcn hcm hn hP hs' hnum (by omega) (by omega) h5
  by_cases h6 : num = 0 ∨ 1000000000 < num
  · have e : frAns zs (P : Int) = (0, ByteArray.empty, 0, 5) := by
      unfold frAns; rw [eP, hs', hnum, if_neg (by omega), if_neg (by omega), if_neg (by omega), if_neg h5, if_pos h6]
    rw [e]; exact implRf_pan _ _ 5 w fun w' hb' => readRf_5 b off _ c zs P s num w' rfl (HB w' hb') (HC w' hb') hz hcn hcm hn hP hs' hnum (by omega) (by omega) h5 h6
  by_cases h7 : sm = crcI (cutL zs P 6 ++ cutL zs (P + 10) s)
  · have e : frAns zs (P : Int) = (num, strOfNums (cutL zs (P + 10) s), (P : Int) + 10 + (s : Int), 0) := by
      unfold frAns; rw [eP, hs', hnum, hsm, es, if_neg (by omega), if_neg (by omega), if_neg (by omega), if_neg h5, if_neg h6, if_pos h7]
    rw [e]; exact implRf_ret _ _ _ _ _ w fun w' hb' => readRf_0 b off _ c zs P s num w' rfl (HB w' hb') (HC w' hb') hz hcn hcm hn hP hs' hnum sm hsm (by omega) (by omega) h5 (by omega) (by omega) h7
  · have e : frAns zs (P : Int) = (0, ByteArray.empty, 0, 6) := by
      unfold frAns; rw [eP, hs', hnum, hsm, es, if_neg (by omega), if_neg (by omega), if_neg (by omega), if_neg h5, if_neg h6, if_neg h7]
    rw [e]; exact implRf_pan _ _ 6 w fun w' hb' => readRf_6 b off _ c zs P s num w' rfl (HB w' hb') (HC w' hb') hz hcn hcm hn hP hs' hnum sm hsm (by omega) (by omega) h5 (by omega) (by omega) h7

end Go.Proofs.Ytbjmjmammpgbmaa

/- ScI: Scan of the program. By program (scgen.py). -/
namespace Go.Proofs.Ytbjmjmammpgbmaa
open Go.RowKit
set_option linter.unusedVariables false
set_option linter.unusedSimpArgs false

set_option maxRecDepth 100000 in
set_option maxHeartbeats 4000000 in
theorem implScan_any (v : Value) (zs : List Int) (w : World) (hr : Reads (.sl .u8) w [v] zs) (hn : zs.length ≤ 1048576) :
    Calls Try.prog 9 #[v] w fun e w' => ∃ u, e = .returned (.tuple #[u, .int .i64 ((scanA zs).2 : Int)]) ∧ w'.ownsRow w.heap.size 33 2 u (scanA zs).1.length (cellsE (scanA zs).1) ∧ Hid (AccOk (scanA zs).1 ∧ (scanA zs).2 ≤ zs.length) ∧ Below w.heap.size w w' := by
  obtain ⟨i0, hi, hz0, hz1, hz2⟩ := info_parts infoEntry
  obtain ⟨R, hR⟩ : ∃ R, R = scanA zs := ⟨_, rfl⟩
  rw [← hR]
  obtain ⟨n, hnz⟩ : ∃ n, n = zs.length := ⟨_, rfl⟩
  rw [← hnz] at hn ⊢
  have hz : Byt zs := by
    obtain ⟨a, c, rfl, _, _⟩ := reads_val hr
    exact (reads_bytes hr).2.1.1
  have qF : Hid (∀ w' (p : Nat), Below w.heap.size w w' → p ≤ n → Calls Try.prog 15 #[v, .int .i64 (p : Int)] w' fun e w'' => e = .returned (.tuple #[.agg #[.int .i64 (frAns zs (p : Int)).1, .string (frAns zs (p : Int)).2.1], .int .i64 (frAns zs (p : Int)).2.2.1, .int .i64 (frAns zs (p : Int)).2.2.2]) ∧ Below w'.heap.size w' w'') := fun w' p hb hp => rf_impl v zs p w' (hr.later hb) (by omega) (by omega) (by omega)
  have qOk : Hid (∀ p : Nat, (frAns zs (p : Int)).2.2.2 = 0 → 1 ≤ (frAns zs (p : Int)).1 ∧ (frAns zs (p : Int)).1 ≤ 1000000000 ∧ (frAns zs (p : Int)).2.1.size ≤ 1000 ∧ ∃ nx : Nat, (frAns zs (p : Int)).2.2.1 = (nx : Int) ∧ p + 11 ≤ nx ∧ nx ≤ n) := fun p h => by rw [hnz]; exact fr_ok zs hz p h
  have HR0 : Hid (R = scanL zs (n + 1) [] 0) := by show _ = _; rw [hR, hnz]; rfl
  clear hr hR hnz hz
  have HO : Hid (w.ownsRow w.heap.size 33 2 (.slice none 0 0) 0 []) := ⟨rfl, .inl ⟨rfl, rfl⟩⟩
  have bA : Below w.heap.size w w := Below.refl _ _
  go_enter Try.func9, Try.ntmps9
  go_wp2
  go_loopw [4, 5] (fun u i wr => ∃ (f p m : Nat) (acc : List EntD) (uu : Value), uu = u ∧ i = .int .i64 p ∧ wr.ownsRow w.heap.size 33 2 uu m (cellsE acc) ∧ Hid (acc.length = m ∧ R = scanL zs f acc p ∧ n + 1 ≤ f + p ∧ AccOk acc) ∧ p ≤ n ∧ m ≤ p ∧ Below w.heap.size w wr) (fun _ i _ => n + 1 - (intOf i).toNat)
  case atStart => exact ⟨n + 1, 0, 0, [], _, rfl, rfl, HO.out, ⟨rfl, HR0.out, by omega, fun x hx => by cases hx⟩, by omega, by omega, bA⟩
  case round =>
    obtain ⟨f, p, m, acc, u, rfl, rfl, hown, HA, hp, hm, hbel⟩ := hrel
    obtain ⟨ua, uc, rfl⟩ := own_sliceE hown
    have hbs := hbel.size
    obtain ⟨y0, hy0⟩ : ∃ y, y = (frAns zs (p : Int)).1 := ⟨_, rfl⟩
    obtain ⟨y1, hy1⟩ : ∃ y, y = (frAns zs (p : Int)).2.1 := ⟨_, rfl⟩
    obtain ⟨nx, hnx⟩ : ∃ y, y = (frAns zs (p : Int)).2.2.1 := ⟨_, rfl⟩
    obtain ⟨cd, hcd⟩ : ∃ y, y = (frAns zs (p : Int)).2.2.2 := ⟨_, rfl⟩
    have q1 : Hid (∀ w', Below w.heap.size w w' → Calls Try.prog 15 #[v, .int .i64 (p : Int)] w' fun e w'' => e = .returned (.tuple #[.agg #[.int .i64 y0, .string y1], .int .i64 nx, .int .i64 cd]) ∧ Below w'.heap.size w' w'') := fun w' hb' => by rw [hy0, hy1, hnx, hcd]; exact qF.out w' p hb' hp
    have hgo : goesOn zs acc p = (decide (cd = 0) && linkB (lastNum acc) y0) := by rw [hy0, hcd]; rfl
    have hrec : recOf zs p = (y0, y1, ()) := by rw [hy0, hy1]; rfl
    have hok := qOk.out p
    rw [← hy0, ← hy1, ← hnx, ← hcd] at hok
    have hsc := HA.out.2.1
    have hff := HA.out.2.2.1
    have hon : goesOn zs acc p = true → R = scanL zs (f - 1) (acc ++ [(y0, y1, ())]) nx.toNat := fun h => by rw [hsc, scanL_on zs f acc p h (by omega), hrec, hnx]
    have hend : goesOn zs acc p = false → R = (acc, p) := fun h => by rw [hsc, scanL_end zs f acc p h]
    have HFin : Hid (goesOn zs acc p = false → ∀ W : World, W.ownsRow w.heap.size 33 2 (.slice ua m uc) m (cellsE acc) → (p : Int) = (R.2 : Int) ∧ W.ownsRow w.heap.size 33 2 (.slice ua m uc) R.1.length (cellsE R.1) ∧ Hid (AccOk R.1 ∧ R.2 ≤ n)) := fun h W hW => by
      have e := hend h
      rw [e]
      refine ⟨rfl, ?_, ⟨HA.out.2.2.2, hp⟩⟩
      show W.ownsRow _ _ _ _ acc.length _
      rw [HA.out.1]; exact hW
    go_wp2_with fail
    refine (q1.out _ hbel).mono ?_
    rintro e w2 ⟨rfl, hb2⟩
    have b2 := hbel.trans (hb2.mono hbs)
    have ho2 := own_later hown hb2
    obtain ⟨W0, hW0⟩ : ∃ W0, W0 = w2.alloc (.cells #[.int .i64 y0, .string y1] 33) := ⟨_, rfl⟩
    have bw0 : Below w2.heap.size w2 W0 := by rw [hW0]; exact (Below.refl _ _).alloc (Nat.le_refl _) _
    have bW0 : Below w.heap.size w W0 := b2.trans (bw0.mono b2.size)
    have hbox : W0.heap[w2.heap.size]? = some (.cells #[.int .i64 y0, .string y1] 33 (0, 0)) := by rw [hW0]; exact heap_alloc_new w2 _
    have zlt0 : w2.heap.size < W0.heap.size := by rw [hW0]; simp
    have HW0 : Hid (W0 = w2.alloc (.cells #[.int .i64 y0, .string y1] 33)) := hW0
    have ho3 := own_later ho2 bw0
    have HO3 : Hid (W0.ownsRow w.heap.size 33 2 (.slice ua m uc) m (cellsE acc)) := ho3
    have BX : Hid (∀ w', Below W0.heap.size W0 w' → w'.cell? ⟨w2.heap.size, 0, none⟩ = some (.int .i64 y0) ∧ w'.cell? ⟨w2.heap.size, 1, none⟩ = some (.string y1)) := fun w' h' => by
      have i := (h'.block _ zlt0).trans hbox
      exact ⟨box_cell i rfl, box_cell i rfl⟩
    have bD0 : Below W0.heap.size W0 W0.drew := (Below.refl _ _).drew
    obtain ⟨v0, v1⟩ := BX.out W0 (Below.refl _ _)
    clear hown ho2 hW0 hbox hy0 hy1 hnx hcd hrec hsc hb2 bw0 ho3 hend qF qOk q1
    by_cases hc : cd = 0
    case neg =>
      have hgf : goesOn zs acc p = false := by rw [hgo]; simp [hc]
      have FN := HFin.out hgf
      have hc1 : (cd == 0) = false := by simp; exact hc
      clear hgo hok hon HFin hgf
      have bX : Below w.heap.size w (w2.alloc (.cells #[.int .i64 y0, .string y1] 33)) := by rw [← HW0.out]; exact bW0
      have oX : (w2.alloc (.cells #[.int .i64 y0, .string y1] 33)).ownsRow w.heap.size 33 2 (.slice ua m uc) m (cellsE acc) := by rw [← HW0.out]; exact HO3.out
      go_wp2
      go_ret2
      exact ⟨_, by rw [← (FN _ oX).1]; rfl, (FN _ oX).2.1, (FN _ oX).2.2, bX⟩
    subst hc
    obtain ⟨k1, k2, k3, nn, k4, k5, k6⟩ := hok rfl
    subst k4
    have FNX : Hid (goesOn zs acc p = true → (acc ++ [(y0, y1, ())]).length = m + 1 ∧ R = scanL zs (f - 1) (acc ++ [(y0, y1, ())]) nn ∧ n + 1 ≤ f - 1 + nn ∧ AccOk (acc ++ [(y0, y1, ())])) := fun h => by
      refine ⟨by rw [List.length_append, HA.out.1]; rfl, hon h, by omega, accOk_snoc _ _ HA.out.2.2.2 ⟨k1, k2, k3⟩⟩
    have HCE : Hid (cellsE (acc ++ [(y0, y1, ())]) = cellsE acc ++ [.int .i64 y0, .string y1]) := cellsE_snoc _ _
    clear hok hon
    have qL : Hid (∀ w', Below W0.heap.size W0 w' → Calls Try.prog 27 #[.slice ua m uc, .agg #[.int .i64 y0, .string y1]] w' fun e w'' => e = .returned (.bool (goesOn zs acc p)) ∧ Below w'.heap.size w' w'') := fun w' hw' => by
      rw [hgo]
      by_cases hm0 : m = 0
      · have hlk : lastNum acc = none := by unfold lastNum; rw [HA.out.1, hm0]; rfl
        rw [hlk, hm0]
        exact follows_none _ _ _ _ _
      · obtain ⟨j, hj⟩ : ∃ j, m = j + 1 := ⟨m - 1, by omega⟩
        obtain ⟨g, cq, he, hg1, hg2⟩ := own_form HO3.out (by omega)
        simp only [Value.slice.injEq, and_true] at he
        obtain ⟨rfl, hcq⟩ := he
        have oW := own_later HO3.out hw'
        obtain ⟨z, hzz, hlk, hmem, hcell⟩ := own_last (j := j) (g := g) (c := uc) (by rw [← hj]; exact oW) (by rw [HA.out.1, hj])
        have hzb := HA.out.2.2.2 z hmem
        have e1 : (decide ((0 : Int) = 0) && linkB (lastNum acc) y0) = (y0 == z.1 + 1) := by
          rw [hlk, Bool.eq_iff_iff]; simp [linkB]
        rw [e1, hj]
        exact follows_some g 0 j uc z.1 y0 y1 w' (Nat.lt_of_lt_of_le hg2 hw'.size) hcell (by omega) hzb.1 hzb.2.1
    cases hG : goesOn zs acc p with
    | true =>
      have FN := FNX.out hG
      rw [hG] at qL
      have FNh : Hid ((acc ++ [(y0, y1, ())]).length = m + 1 ∧ R = scanL zs (f - 1) (acc ++ [(y0, y1, ())]) nn ∧ n + 1 ≤ f - 1 + nn ∧ AccOk (acc ++ [(y0, y1, ())])) := FN
      clear hgo hG FN FNX HFin
      go_wp2_with fail
      rw [← HW0.out]
      refine (qL.out _ (Below.refl _ _)).mono ?_
      rintro e w5 ⟨rfl, hb5⟩
      have oW := own_later HO3.out hb5
      have bWW := bW0.trans ((hb5).mono bW0.size)
      obtain ⟨x0, x1⟩ := BX.out w5 hb5
      go_wp2_with (at_builtin; refine wpList_append_src rfl _ _ 23 rfl w.heap.size 33 i0 (.agg #[.int .i64 0, .string ByteArray.empty]) 2 24 Try.underlying23 hi hz0 hz1 hz2 rfl (by decide) (.slice ua m uc) m (cellsE acc) rfl (oW.alloc _) (.slice (some ⟨w5.heap.size, 0, none⟩) 1 1) 1 [.int .i64 y0, .string y1] rfl rfl (.inr ⟨_, 1, rfl, cells_new w5 [.int .i64 y0, .string y1] 33⟩) ?c2 ?c3 ?c4 ?c5 ?_)
      case c2 => intro u hu; simp at hu; rcases hu with rfl | rfl <;> rfl
      case c3 => unfold maxLen; omega
      case c4 => omega
      case c5 => have h9 := bWW.size; (try simp at h9); simp; omega
      intro v3 w3 o3 gr3
      have b3 : Below w.heap.size w w3 := (bWW.alloc bWW.size _).grown gr3 (by have h9 := bWW.size; (try simp at h9); simp; omega) (fun y h => (oW.lt y h).1)
      rw [← HCE.out] at o3
      clear gr3 oW
      go_wp2
      go_roundw
      case rel => exact ⟨f - 1, nn, m + 1, _, _, rfl, rfl, o3, FNh, k6, by omega, b3⟩
      case measure => simp [intOf]; omega
    | false =>
      have FN := HFin.out hG
      rw [hG] at qL
      clear hgo hG FNX HFin
      go_wp2_with fail
      rw [← HW0.out]
      refine (qL.out _ (Below.refl _ _)).mono ?_
      rintro e w5 ⟨rfl, hb5⟩
      have b5 := bW0.trans (hb5.mono bW0.size)
      have oW := own_later HO3.out hb5
      go_wp2
      go_ret2
      exact ⟨_, by rw [← (FN w5 oW).1]; rfl, (FN w5 oW).2.1, (FN w5 oW).2.2, b5⟩

end Go.Proofs.Ytbjmjmammpgbmaa

/- WFnLog: The walk of the law FnLog: it returns true and writes nothing that was there. -/
namespace Go.Proofs.Ytbjmjmammpgbmaa
open Go.RowKit
set_option linter.unusedVariables false

theorem log_small (d : List EntD) (h : ∀ x ∈ d, ByteArray.size x.2.1 ≤ 20) : (logL d).length ≤ d.length * 30 := by
  induction d with
  | nil => simp [logL]
  | cons a l ih =>
    have h1 := ih (fun x hx => h x (List.mem_cons_of_mem _ hx))
    have h2 := h a List.mem_cons_self
    have h3 := recL_len a
    have e : logL (a :: l) = recL a ++ logL l := by simp [logL]
    rw [e, List.length_append, List.length_cons]
    omega

theorem logTo_len_succ (d : List EntD) (i : Nat) (x : EntD) (hx : d[i]? = some x) : (logTo d (i + 1)).length = (logTo d i).length + (10 + ByteArray.size x.2.1) := by
  rw [logTo_succ d i x hx, List.length_append, recL_len]

theorem logTo_mono (d : List EntD) : ∀ (i r : Nat), (logTo d i).length ≤ (logTo d (i + r)).length
  | i, 0 => Nat.le_refl _
  | i, r + 1 => by
    have h := logTo_mono d i r
    cases hx : d[i + r]? with
    | none =>
      have hl : d.length ≤ i + r := List.getElem?_eq_none_iff.1 hx
      rw [logTo_all d (i + (r + 1)) (by omega)]
      rw [logTo_all d (i + r) hl] at h
      exact h
    | some x =>
      have e := logTo_succ d (i + r) x hx
      rw [← Nat.add_assoc, e, List.length_append]
      omega

theorem reads_front {e : Sh} {w : World} {a : Option Addr} {n c : Nat} {d : List e.D} (h : Reads (.sl e) w [.slice a n c] d) (k : Nat) (hk : k ≤ n) : Reads (.sl e) w [.slice a k c] (List.take k d) := by
  obtain ⟨ad, cp, e1, hl, hm, h0⟩ := h
  simp only [List.cons.injEq, Value.slice.injEq, and_true] at e1
  obtain ⟨rfl, hn, rfl⟩ := e1
  have hdl : (List.take k d).length = k := by rw [List.length_take]; omega
  refine ⟨a, c, ?_, ?_, hm, ?_⟩
  · show _ = [Value.slice _ (List.take k d).length _]; rw [hdl]
  · show (List.take k d).length ≤ c; omega
  · rcases h0 with h0 | ⟨b, off, hb, hlt, hx⟩
    · left
      have h0' : d.length = 0 := h0
      show (List.take k d).length = 0
      omega
    · refine .inr ⟨b, off, hb, hlt, fun i x hi => ?_⟩
      have hi2 : (List.take k d)[i]? = some x := hi
      have hik : i < k := by
        have := (List.getElem?_eq_some_iff.1 hi2).1
        rw [hdl] at this; exact this
      rw [List.getElem?_take_of_lt hik] at hi2
      exact hx i x hi2

set_option maxRecDepth 100000 in
set_option maxHeartbeats 4000000 in
theorem logLaw_in (a : Option Addr) (n cap : Nat) (zs : List Int) (w : World) (HL : Hid (zs.length = n)) (hn : n ≤ 1048576) (hr : Rd w a zs) :
    Calls Try.prog 3 #[.slice a n cap] w fun e w' => e = .returned (.bool true) ∧ Below w.heap.size w w' := by
  have hlt : ¬ (1048576 : Int) < (n : Int) := by omega
  have HR : Hid (Rd w a zs) := hr
  clear hr
  go_enter Try.func3, Try.ntmps3
  go_wp2_with fail
  refine (makeEntries_any a n cap zs _ HL hn HR.out).mono ?_
  rintro e w1 ⟨d, m, g, cp, hm6, hdl, hE, hsz, rfl, ho1, hb1⟩
  have hls := log_small d hsz
  rw [hdl] at hls
  obtain ⟨L, hL⟩ : ∃ L, L = logL d := ⟨_, rfl⟩
  obtain ⟨l, hl⟩ : ∃ l, l = L.length := ⟨_, rfl⟩
  have hl180 : l ≤ 180 := by rw [hl, hL]; omega
  have small : SmallE d := fun x hx => by have := hsz x hx; unfold maxLen; omega
  have hR1 : Reads (.sl shEntry) w1 [.slice (some ⟨g, 0, none⟩) m cp] d := by
    obtain ⟨F, hF, _⟩ := own_entsV hdl small ho1
    exact hF.reads
  obtain ⟨_, hmcp, hcpm⟩ := reads_len hR1
  unfold maxLen at hcpm
  have HD : Hid (∀ w', Below w1.heap.size w1 w' → Reads (.sl shEntry) w' [.slice (some ⟨g, 0, none⟩) m cp] d) := fun w' h => hR1.later h
  have hBL : Byt L := by rw [hL]; exact byt_logL d
  have HP : Hid (d.length = m ∧ entsB d = true ∧ (∀ x ∈ d, ByteArray.size x.2.1 ≤ 20) ∧ L = logL d ∧ l = L.length ∧ Byt L) := ⟨hdl, hE, hsz, hL, hl, hBL⟩
  have qL : Hid (Calls Try.prog 8 #[.slice (some ⟨g, 0, none⟩) m cp] w1 fun e w' => ∃ va vc, e = .returned (.tuple #[.slice va l vc, .bool true]) ∧ w'.ownsRow w1.heap.size 5 1 (.slice va l vc) l (L.map (Value.int .u8)) ∧ Below w1.heap.size w1 w') := by
    refine (implLog_good _ _ _ d w1 hR1 hE).mono ?_
    rintro e w' ⟨hb, ⟨_, v, rfl, ho⟩ | ⟨h1, _⟩⟩
    · rw [← hL, ← hl] at ho
      obtain ⟨va, vc, rfl⟩ := own_slice ho
      exact ⟨va, vc, rfl, ho, hb⟩
    · rw [← hL, ← hl] at h1; omega
  clear ho1 hR1 hdl hE hsz hL hl hls small hBL
  go_wp2_with fail
  refine qL.out.mono ?_
  rintro e w2 ⟨va, vc, rfl, ho2, hb2⟩
  have hRL : Reads (.sl .u8) w2 [.slice va l vc] L := by
    obtain ⟨F, hF, _⟩ := own_row HP.out.2.2.2.2.1.symm HP.out.2.2.2.2.2 ho2
    exact hF.reads
  obtain ⟨_, hlvc, hvcm⟩ := reads_len hRL
  unfold maxLen at hvcm
  have HRL : Hid (∀ w', Below w2.heap.size w2 w' → Reads (.sl .u8) w' [.slice va l vc] L) := fun w' h => hRL.later h
  have qS : Hid (∀ w', Below w2.heap.size w2 w' → Calls Try.prog 9 #[.slice va l vc] w' fun e w'' => ∃ ua uc, e = .returned (.tuple #[.slice ua m uc, .int .i64 (l : Int)]) ∧ Reads (.sl shEntry) w'' [.slice ua m uc] d ∧ Below w'.heap.size w' w'') := fun w' h => by
    have hl5 := HP.out.2.2.2.2.1
    refine (implScan_any _ L w' (HRL.out w' h) (by omega)).mono ?_
    rintro e w'' ⟨u, rfl, ho, hk, hb⟩
    have hsc : scanA L = (d, l) := by rw [HP.out.2.2.2.2.1, HP.out.2.2.2.1]; exact scan_log d HP.out.2.1
    rw [hsc] at ho ⊢
    have hdl : List.length (α := EntD) d = m := HP.out.1
    have ho' : w''.ownsRow w'.heap.size 33 2 u m (cellsE d) := by rw [← hdl]; exact ho
    have small : SmallE d := fun x hx => by have := HP.out.2.2.1 x hx; unfold maxLen; omega
    obtain ⟨F, hF, _, ua, uc, rfl⟩ := own_entsV hdl small ho'
    exact ⟨ua, uc, rfl, hF.reads, hb⟩
  clear ho2 hRL qL
  go_wp2_with fail
  refine (qS.out _ (Below.refl _ _)).mono ?_
  rintro e w3 ⟨ua, uc, rfl, hR3, hb3⟩
  have hb13 : Below w1.heap.size w1 w3 := hb2.trans (hb3.mono hb2.size)
  have qM : Hid (Calls Try.prog 10 #[.slice ua m uc, .slice (some ⟨g, 0, none⟩) m cp] w3 fun e w' => e = .returned (.bool true) ∧ Below w3.heap.size w3 w') := same_true _ _ m _ _ d w3 hR3 (HD.out w3 hb13) (by omega)
  have qE : Hid (∀ w', Below w1.heap.size w1 w' → Calls Try.prog 11 #[.slice (some ⟨g, 0, none⟩) m cp] w' fun e w'' => e = .returned (.bool true) ∧ Below w'.heap.size w' w'') := fun w' h => by rw [← HP.out.2.1]; exact implEnts_any _ _ _ d w' (HD.out w' h)
  have hne : ((l : Int) != (l : Int)) = false := by simp
  clear hR3
  go_wp2_with fail
  refine qM.out.mono ?_
  rintro e w4 ⟨rfl, hb4⟩
  have hb14 := hb13.trans (hb4.mono hb13.size)
  go_wp2_with fail
  refine (qE.out _ hb14).mono ?_
  rintro e w5 ⟨rfl, hb5⟩
  have hb15 := hb14.trans (hb5.mono hb14.size)
  have hb25 : Below w2.heap.size w2 w5 := (hb3.trans (hb4.mono hb3.size)).trans (hb5.mono (hb3.trans (hb4.mono hb3.size)).size)
  have hbw5 := hb1.trans (hb15.mono hb1.size)
  clear hb3 hb4 hb5 hb13 hb14 qM qE qS
  go_wp2_with fail
  refine (makeNum_any a n cap zs _ _ HL hn (HR.out.later hbw5) (by omega) (by omega)).mono ?_
  rintro e w6 ⟨k, rfl, hk, hb6⟩
  have hkl : k ≤ l := by omega
  obtain ⟨j, hjm, hsc, hj1, hj2⟩ := scan_cut d HP.out.2.1 k (by rw [← HP.out.2.2.2.1, ← HP.out.2.2.2.2.1]; exact hkl)
  rw [← HP.out.2.2.2.1] at hsc
  rw [HP.out.1] at hjm hj2
  have hb26 := hb25.trans (hb6.mono hb25.size)
  have hb16 := hb15.trans (hb6.mono hb15.size)
  have qT : Hid (Calls Try.prog 9 #[.slice va k vc] w6 fun e w'' => ∃ ta tc, e = .returned (.tuple #[.slice ta j tc, .int .i64 ((logTo d j).length : Int)]) ∧ Reads (.sl shEntry) w'' [.slice ta j tc] (d.take j) ∧ Below w6.heap.size w6 w'') := by
    have hrd := reads_front (HRL.out w6 hb26) k hkl
    refine (implScan_any _ (L.take k) w6 hrd (by rw [List.length_take]; omega)).mono ?_
    rintro e w'' ⟨u, rfl, ho, hk9, hb⟩
    rw [hsc] at ho ⊢
    have hdl : List.length (α := EntD) (d.take j) = j := by rw [List.length_take, HP.out.1]; omega
    have ho2' : w''.ownsRow w6.heap.size 33 2 u (List.length (α := EntD) (d.take j)) (cellsE (d.take j)) := ho
    have ho' : w''.ownsRow w6.heap.size 33 2 u j (cellsE (d.take j)) := by rwa [hdl] at ho2'
    have small : SmallE (d.take j) := fun x hx => by have := HP.out.2.2.1 x (List.mem_of_mem_take hx); unfold maxLen; omega
    obtain ⟨F, hF, _, ua, uc, rfl⟩ := own_entsV hdl small ho'
    exact ⟨ua, uc, rfl, hF.reads, hb⟩
  obtain ⟨A, hA⟩ : ∃ A, A = (logTo d j).length := ⟨_, rfl⟩
  rw [← hA] at qT hj1
  have HJ : Hid (A = (logTo d j).length ∧ (j < m → k < (logTo d (j + 1)).length)) := ⟨hA, hj2⟩
  have hkvc : k ≤ vc := by omega
  have hkvc' : ¬ vc < k := by omega
  clear hsc hj2 hA hb25 hb15 hb6 HRL
  go_wp2_with fail
  refine qT.out.mono ?_
  rintro e w7 ⟨ta, tc, rfl, hR7, hb7⟩
  have hb17 := hb16.trans (hb7.mono hb16.size)
  have qM : Hid (Calls Try.prog 10 #[.slice ta j tc, .slice (some ⟨g, 0, none⟩) j cp] w7 fun e w' => e = .returned (.bool true) ∧ Below w7.heap.size w7 w') := same_true _ _ j _ _ (d.take j) w7 hR7 (reads_front (HD.out w7 hb17) j hjm) (by omega)
  have z1 : ¬ ((m : Int) < (j : Int)) := by omega
  have z2 : ¬ m < j := by omega
  have z3 : ¬ ((k : Int) < (A : Int)) := by omega
  have z4 : ¬ k < A := by omega
  have z5 : j ≤ cp := by omega
  have z6 : ¬ cp < j := by omega
  have z7 : decide ((m : Int) < (j : Int)) = false := by simp; omega
  have z8 : decide (m < j) = false := by simp; omega
  clear hR7 qT hb16 hb26
  go_wp2_with fail
  refine qM.out.mono ?_
  rintro e w8 ⟨rfl, hb8⟩
  have hb18 := hb17.trans (hb8.mono hb17.size)
  clear hb7 hb8 hb17 qM
  go_wp2
  go_loopw [11, 83] (fun q i wr => ∃ i' : Nat, i' ≤ m ∧ i = .int .i64 i' ∧ q = .int .i64 ((logTo d i').length : Int) ∧ Below w1.heap.size w1 wr) (fun _ i _ => m - (intOf i).toNat)
  case atStart => exact ⟨0, Nat.zero_le _, rfl, by rw [logTo_zero]; rfl, hb18⟩
  case round =>
    obtain ⟨i, him, rfl, rfl, hbel⟩ := hrel
    by_cases hlt' : i < m
    · have hRw := HD.out wr hbel
      obtain ⟨b, off, cc, x, he, hb, hx, hrx, hcell⟩ := reads_elem hRw i hlt'
      simp only [Option.some.injEq, Addr.mk.injEq, and_true] at he
      obtain ⟨rfl, rfl⟩ := he
      obtain ⟨rfl, ls⟩ := open_Entry hrx
      obtain ⟨y0, ey0⟩ : ∃ y : Int, y = x.1 := ⟨_, rfl⟩
      obtain ⟨y1, ey1⟩ : ∃ y : ByteArray, y = x.2.1 := ⟨_, rfl⟩
      have hB : entB y0 y1.size = true := by rw [ey0, ey1]; exact ents_at d HP.out.2.1 i x hx
      have g0 : wr.cell? ⟨g, i * 2, none⟩ = some (.int .i64 y0) := by rw [ey0]; have := hcell 0 (by decide); simpa [size_Entry] using this
      have g1 : wr.cell? ⟨g, i * 2 + 1, none⟩ = some (.string y1) := by rw [ey1]; have := hcell 1 (by decide); simpa [size_Entry] using this
      have hsl : (logTo d (i + 1)).length = (logTo d i).length + (10 + y1.size) := by rw [ey1]; exact logTo_len_succ d i x hx
      obtain ⟨Z, hZ⟩ : ∃ Z, Z = (logTo d i).length := ⟨_, rfl⟩
      obtain ⟨Y, hY⟩ : ∃ Y, Y = (logTo d (i + 1)).length := ⟨_, rfl⟩
      have hle : Y ≤ l := by rw [hY, HP.out.2.2.2.2.1, HP.out.2.2.2.1]; exact logTo_le d (i + 1)
      have hq : (Y ≤ k) ↔ (i < j) := by
        constructor
        · intro h
          rcases Nat.lt_or_ge i j with h1 | h1
          · exact h1
          · have h2 := HJ.out.2 (by omega)
            have h3 := logTo_mono d (j + 1) (i - j)
            rw [show j + 1 + (i - j) = i + 1 by omega] at h3
            omega
        · intro h
          have h3 := logTo_mono d (i + 1) (j - (i + 1))
          rw [show i + 1 + (j - (i + 1)) = j by omega, ← HJ.out.1] at h3
          omega
      rw [← hZ, ← hY] at hsl
      rw [← hZ]
      have HY : Hid (Y = (logTo d (i + 1)).length) := hY
      have qF : Hid (∀ w', Calls Try.prog 13 #[.agg #[.int .i64 y0, .string y1]] w' fun e w'' => ∃ va vc, e = .returned (.tuple #[.slice va (10 + y1.size) vc, .bool true]) ∧ Below w'.heap.size w' w'') := fun w' => by
        refine (implFrame_yes y0 y1 w' hB).mono ?_
        rintro e w'' ⟨v, rfl, ho, hb⟩
        obtain ⟨a1, c1, rfl⟩ := own_slice ho
        exact ⟨a1, c1, rfl, hb⟩
      have e1 : (Z : Int) + ((10 : Int) + (y1.size : Int)) = (Y : Int) := by omega
      have e1' : (Z : Int) + ((10 + y1.size : Nat) : Int) = (Y : Int) := by omega
      have e2 : IntKind.i64.wrap (Y : Int) = (Y : Int) := wrap_i64_in _ (by omega) (by omega)
      have hbs := hbel.size
      obtain ⟨W0, hW0⟩ : ∃ W0, W0 = wr.alloc (.cells #[.int .i64 y0, .string y1] 33) := ⟨_, rfl⟩
      have bw0 : Below wr.heap.size wr W0 := by rw [hW0]; exact (Below.refl _ _).alloc (Nat.le_refl _) _
      have bW0 : Below w1.heap.size w1 W0 := hbel.trans (bw0.mono hbs)
      have HW0 : Hid (W0 = wr.alloc (.cells #[.int .i64 y0, .string y1] 33)) := hW0
      have hgz : g < wr.heap.size := hb
      clear hcell hrx hx ey0 ey1 hW0 hB hRw hZ hY hsl hb
      by_cases hij : i < j
      · have p1 : Y ≤ k := hq.2 hij
        have p2 : (Y : Int) ≤ (k : Int) := by omega
        have p3 : (i : Int) < (j : Int) := by omega
        clear hq
        go_wp2_with fail
        rw [← HW0.out]
        refine (qF.out _).mono ?_
        rintro e w9 ⟨a1, c1, rfl, hb9⟩
        have bE := bW0.trans (hb9.mono bW0.size)
        go_wp2
        go_roundw
        case rel => exact ⟨i + 1, by omega, by go_num, by rw [← HY.out], bE⟩
        case measure => simp [intOf]; omega
      · have p1 : ¬ Y ≤ k := fun h => hij (hq.1 h)
        have p2 : ¬ (Y : Int) ≤ (k : Int) := by omega
        have p3 : ¬ (i : Int) < (j : Int) := by omega
        clear hq
        go_wp2_with fail
        rw [← HW0.out]
        refine (qF.out _).mono ?_
        rintro e w9 ⟨a1, c1, rfl, hb9⟩
        have bE := bW0.trans (hb9.mono bW0.size)
        go_wp2
        go_roundw
        case rel => exact ⟨i + 1, by omega, by go_num, by rw [← HY.out], bE⟩
        case measure => simp [intOf]; omega
    · have e : i = m := by omega
      subst e
      have hmN : i = lastN i (i : Int) := by unfold lastN; split <;> (try split) <;> omega
      have qZ : Hid (Calls Try.prog 14 #[.slice (some ⟨g, 0, none⟩) i cp, .int .i64 (i : Int)] wr fun e w' => ∃ ta tc, e = .returned (.slice ta i tc) ∧ Reads (.sl shEntry) w' [.slice ta i tc] d ∧ Below wr.heap.size wr w') := by
        refine (implLast_some g 0 i cp 0 i (i : Int) d wr (HD.out wr hbel) (by omega) (fun x hx => by have := HP.out.2.2.1 x hx; omega) hmN (by omega)).mono ?_
        rintro e w' ⟨v, rfl, ho, hb⟩
        have small : SmallE d := fun x hx => by have := HP.out.2.2.1 x hx; unfold maxLen; omega
        obtain ⟨F, hF, _, ta, tc, rfl⟩ := own_entsV HP.out.1 small ho
        exact ⟨ta, tc, rfl, hF.reads, hb⟩
      clear hmN
      go_wp2_with fail
      refine qZ.out.mono ?_
      rintro e w9 ⟨ta9, tc9, rfl, hR9, hb9⟩
      have hb19 := hbel.trans (hb9.mono hbel.size)
      have qN : Hid (Calls Try.prog 10 #[.slice ta9 i tc9, .slice (some ⟨g, 0, none⟩) i cp] w9 fun e w' => e = .returned (.bool true) ∧ Below w9.heap.size w9 w') := same_true _ _ i _ _ d w9 hR9 (HD.out w9 hb19) (by omega)
      clear hR9
      go_wp2_with fail
      refine qN.out.mono ?_
      rintro e wA ⟨rfl, hbA⟩
      have hbE := hb1.trans ((hb19.trans (hbA.mono hb19.size)).mono hb1.size)
      go_wp2
      go_ret
      exact ⟨rfl, hbE⟩

theorem logLaw_any (a : Option Addr) (n cap : Nat) (zs : List Int) (w : World) (hl : zs.length = n) (hr : Rd w a zs) :
    Calls Try.prog 3 #[.slice a n cap] w fun e w' => e = .returned (.bool true) ∧ Below w.heap.size w w' := by
  by_cases hn : n ≤ 1048576
  · exact logLaw_in a n cap zs w hl hn hr
  · have hlt : (1048576 : Int) < (n : Int) := by omega
    clear hr hl
    go_enter Try.func3, Try.ntmps3
    go_wp2
    go_ret
    exact ⟨rfl, Below.refl _ _⟩

end Go.Proofs.Ytbjmjmammpgbmaa
