/-
  The walk of the law FnExactSameGrid over the contracts of its two functions. By program (lawgen3.py).
-/
import Derived.Test.YtmiggbdlhajkiaaMkGrid
import Derived.Test.YtmiggbdlhajkiaaVI
namespace Go.Proofs.Ytmiggbdlhajkiaa
open Go.RowKit
set_option linter.unusedVariables false

set_option maxRecDepth 100000 in
set_option maxHeartbeats 8000000 in
theorem sameGrid_over (cs0 : List Value) (d0 : shGrid.D) (cs1 : List Value) (d1 : shGrid.D) (V0 : Bool) (w : World) (hr0 : Reads shGrid w cs0 d0) (hr1 : Reads shGrid w cs1 d1)
    (hcd0 : shGrid.sz d0 ≤ 1048576 → shGrid.cntV d0 ≤ 1000000000)
    (hcd1 : shGrid.sz d1 ≤ 1048576 → shGrid.cntV d1 ≤ 1000000000)
    (hS : ∀ w' c0 G0 c1 G1, Own shGrid w' 0 c0 d0 G0 → Own shGrid w' 0 c1 d1 G1 → shGrid.sz d0 ≤ 1048576 → shGrid.sz d1 ≤ 1048576 → Calls Try.prog 12 #[.agg c0.toArray, .agg c1.toArray] w' fun e w'' => e = .returned (.bool V0) ∧ Below w'.heap.size w' w'')
    (hI : ∀ w' c0 G0 c1 G1, Own shGrid w' 0 c0 d0 G0 → Own shGrid w' 0 c1 d1 G1 → shGrid.sz d0 ≤ 1048576 → shGrid.sz d1 ≤ 1048576 → Calls Try.prog 13 #[.agg c0.toArray, .agg c1.toArray] w' fun e w'' => e = .returned (.bool V0) ∧ Below w'.heap.size w' w'') :
    Calls Try.prog 4 #[.agg cs0.toArray, .agg cs1.toArray] w fun e w' => e = .returned (.bool true) ∧ Below w.heap.size w w' := by
  have qsz0 : Hid (∀ w' left, Below w.heap.size w w' → 0 ≤ left → left ≤ 1048576 → Calls Try.prog 5 #[.agg cs0.toArray, .int .i64 left] w' fun e w'' => e = .returned (.int .i64 (szAns (shGrid.sz d0) left)) ∧ Below w'.heap.size w' w'') := fun w' left h' h1 h2 => szGrid_any cs0 d0 left w' (hr0.later h') h1 h2
  have qto0 : Hid (∀ w', Below w.heap.size w w' → shGrid.sz d0 ≤ 1048576 → Calls Try.prog 7 #[.agg cs0.toArray] w' fun e w'' => ∃ cs' F, e = .returned (.agg cs'.toArray) ∧ Own shGrid w'' w'.heap.size cs' d0 F ∧ F.Nodup ∧ Below w'.heap.size w' w'') := fun w' h' hs => toGrid_any cs0 d0 w' (hr0.later h') hs
  have qeq0 : Hid (∀ w' c1 c2, Reads shGrid w' c1 d0 → Reads shGrid w' c2 d0 → shGrid.sz d0 ≤ 1048576 → Calls Try.prog 9 #[.agg c1.toArray, .agg c2.toArray] w' fun e w'' => e = .returned (.bool true) ∧ Below w'.heap.size w' w'') := fun w' c1 c2 h1 h2 hs => eqGrid_any c1 c2 d0 w' h1 h2 hs
  have qsz1 : Hid (∀ w' left, Below w.heap.size w w' → 0 ≤ left → left ≤ 1048576 → Calls Try.prog 5 #[.agg cs1.toArray, .int .i64 left] w' fun e w'' => e = .returned (.int .i64 (szAns (shGrid.sz d1) left)) ∧ Below w'.heap.size w' w'') := fun w' left h' h1 h2 => szGrid_any cs1 d1 left w' (hr1.later h') h1 h2
  have qto1 : Hid (∀ w', Below w.heap.size w w' → shGrid.sz d1 ≤ 1048576 → Calls Try.prog 7 #[.agg cs1.toArray] w' fun e w'' => ∃ cs' F, e = .returned (.agg cs'.toArray) ∧ Own shGrid w'' w'.heap.size cs' d1 F ∧ F.Nodup ∧ Below w'.heap.size w' w'') := fun w' h' hs => toGrid_any cs1 d1 w' (hr1.later h') hs
  have qeq1 : Hid (∀ w' c1 c2, Reads shGrid w' c1 d1 → Reads shGrid w' c2 d1 → shGrid.sz d1 ≤ 1048576 → Calls Try.prog 9 #[.agg c1.toArray, .agg c2.toArray] w' fun e w'' => e = .returned (.bool true) ∧ Below w'.heap.size w' w'') := fun w' c1 c2 h1 h2 hs => eqGrid_any c1 c2 d1 w' h1 h2 hs
  have qS : Hid (∀ w' c0 G0 c1 G1, Own shGrid w' 0 c0 d0 G0 → Own shGrid w' 0 c1 d1 G1 → shGrid.sz d0 ≤ 1048576 → shGrid.sz d1 ≤ 1048576 → Calls Try.prog 12 #[.agg c0.toArray, .agg c1.toArray] w' fun e w'' => e = .returned (.bool V0) ∧ Below w'.heap.size w' w'') := hS
  have qI : Hid (∀ w' c0 G0 c1 G1, Own shGrid w' 0 c0 d0 G0 → Own shGrid w' 0 c1 d1 G1 → shGrid.sz d0 ≤ 1048576 → shGrid.sz d1 ≤ 1048576 → Calls Try.prog 13 #[.agg c0.toArray, .agg c1.toArray] w' fun e w'' => e = .returned (.bool V0) ∧ Below w'.heap.size w' w'') := hI
  have qcd0 : Hid (shGrid.sz d0 ≤ 1048576 → shGrid.cntV d0 ≤ 1000000000) := hcd0
  have qcd1 : Hid (shGrid.sz d1 ≤ 1048576 → shGrid.cntV d1 ≤ 1000000000) := hcd1
  have hne0 : (V0 != V0) = false := by cases V0 <;> rfl
  obtain ⟨aA0_2, nA0_2, cA0_2, hcs0, _⟩ := open_Grid hr0
  obtain ⟨xL0_0, eL0_0⟩ : ∃ x : Int, x = d0.1 := ⟨_, rfl⟩
  obtain ⟨xL0_1, eL0_1⟩ : ∃ x : Int, x = d0.2.1 := ⟨_, rfl⟩
  obtain ⟨xL0_3, eL0_3⟩ : ∃ x : Int, x = d0.2.2.2.1 := ⟨_, rfl⟩
  obtain ⟨xL0_4, eL0_4⟩ : ∃ x : Int, x = d0.2.2.2.2.1 := ⟨_, rfl⟩
  obtain ⟨xL0_5, eL0_5⟩ : ∃ x : Bool, x = d0.2.2.2.2.2.1 := ⟨_, rfl⟩
  have HEL0 : Hid (xL0_0 = d0.1 ∧ xL0_1 = d0.2.1 ∧ xL0_3 = d0.2.2.2.1 ∧ xL0_4 = d0.2.2.2.2.1 ∧ xL0_5 = d0.2.2.2.2.2.1 ∧ True ∧ True) := ⟨eL0_0, eL0_1, eL0_3, eL0_4, eL0_5, trivial, trivial⟩
  rw [← eL0_0, ← eL0_1, ← eL0_3, ← eL0_4, ← eL0_5] at hcs0
  subst hcs0
  obtain ⟨K0, hK0⟩ : ∃ K, K = shGrid.sz d0 := ⟨_, rfl⟩
  rw [← hK0] at qsz0
  have HK0 : Hid (K0 = shGrid.sz d0) := hK0
  clear hK0
  obtain ⟨aA1_2, nA1_2, cA1_2, hcs1, _⟩ := open_Grid hr1
  obtain ⟨xL1_0, eL1_0⟩ : ∃ x : Int, x = d1.1 := ⟨_, rfl⟩
  obtain ⟨xL1_1, eL1_1⟩ : ∃ x : Int, x = d1.2.1 := ⟨_, rfl⟩
  obtain ⟨xL1_3, eL1_3⟩ : ∃ x : Int, x = d1.2.2.2.1 := ⟨_, rfl⟩
  obtain ⟨xL1_4, eL1_4⟩ : ∃ x : Int, x = d1.2.2.2.2.1 := ⟨_, rfl⟩
  obtain ⟨xL1_5, eL1_5⟩ : ∃ x : Bool, x = d1.2.2.2.2.2.1 := ⟨_, rfl⟩
  have HEL1 : Hid (xL1_0 = d1.1 ∧ xL1_1 = d1.2.1 ∧ xL1_3 = d1.2.2.2.1 ∧ xL1_4 = d1.2.2.2.2.1 ∧ xL1_5 = d1.2.2.2.2.2.1 ∧ True ∧ True) := ⟨eL1_0, eL1_1, eL1_3, eL1_4, eL1_5, trivial, trivial⟩
  rw [← eL1_0, ← eL1_1, ← eL1_3, ← eL1_4, ← eL1_5] at hcs1
  subst hcs1
  obtain ⟨K1, hK1⟩ : ∃ K, K = shGrid.sz d1 := ⟨_, rfl⟩
  rw [← hK1] at qsz1
  have HK1 : Hid (K1 = shGrid.sz d1) := hK1
  clear hK1
  clear hS hI hr0 hcd0 hr1 hcd1 eL0_0 eL0_1 eL0_3 eL0_4 eL0_5 eL1_0 eL1_1 eL1_3 eL1_4 eL1_5
  go_enter Try.func4, Try.ntmps4
  go_wp2_with fail
  obtain ⟨w1, hw1⟩ : ∃ W, W = w.alloc (.cells #[.int .i64 xL0_0, .int .i64 xL0_1, .slice aA0_2 nA0_2 cA0_2, .int .i64 xL0_3, .int .i64 xL0_4, .bool xL0_5] 24) := ⟨_, rfl⟩
  have hbw1 : Below w.heap.size w w1 := by rw [hw1]; exact (Below.refl _ _).alloc (Nat.le_refl _) _
  have i_a0_w1 : Hid (w1.heap[w.heap.size]? = some (.cells #[.int .i64 xL0_0, .int .i64 xL0_1, .slice aA0_2 nA0_2 cA0_2, .int .i64 xL0_3, .int .i64 xL0_4, .bool xL0_5] 24 (0, 0))) := by show _ = _; rw [hw1]; exact heap_alloc_new w _
  have zzw1 : w1.heap.size = w.heap.size + 1 := by rw [hw1]; simp
  rw [← hw1]
  clear hw1
  have zw1 : w.heap.size ≤ w1.heap.size := hbw1.size
  have bw1 := (Below.refl w.heap.size w).trans (hbw1.mono (Below.refl w.heap.size w).size)
  clear hbw1
  obtain ⟨w2, hw2⟩ : ∃ W, W = w1.alloc (.cells #[.int .i64 xL1_0, .int .i64 xL1_1, .slice aA1_2 nA1_2 cA1_2, .int .i64 xL1_3, .int .i64 xL1_4, .bool xL1_5] 24) := ⟨_, rfl⟩
  have hbw2 : Below w1.heap.size w1 w2 := by rw [hw2]; exact (Below.refl _ _).alloc (Nat.le_refl _) _
  have i_a1_w2 : Hid (w2.heap[(w.heap.size + 1)]? = some (.cells #[.int .i64 xL1_0, .int .i64 xL1_1, .slice aA1_2 nA1_2 cA1_2, .int .i64 xL1_3, .int .i64 xL1_4, .bool xL1_5] 24 (0, 0))) := by show _ = _; rw [hw2, ← zzw1]; exact heap_alloc_new w1 _
  have zzw2 : w2.heap.size = w1.heap.size + 1 := by rw [hw2]; simp
  rw [← hw2]
  clear hw2
  have zw2 : w1.heap.size ≤ w2.heap.size := hbw2.size
  have bw2 := bw1.trans (hbw2.mono bw1.size)
  clear bw1
  have i_a0_w2 : Hid (w2.heap[w.heap.size]? = some (.cells #[.int .i64 xL0_0, .int .i64 xL0_1, .slice aA0_2 nA0_2 cA0_2, .int .i64 xL0_3, .int .i64 xL0_4, .bool xL0_5] 24 (0, 0))) := (hbw2.block _ (by omega)).trans i_a0_w1.out
  clear i_a0_w1
  clear hbw2
  refine (qsz0.out _ (1048576) bw2 (by omega) (by omega)).mono ?_
  rintro e w3 ⟨rfl, hbw3⟩
  have zw3 : w2.heap.size ≤ w3.heap.size := hbw3.size
  have bw3 := bw2.trans (hbw3.mono bw2.size)
  clear bw2
  have i_a0_w3 : Hid (w3.heap[w.heap.size]? = some (.cells #[.int .i64 xL0_0, .int .i64 xL0_1, .slice aA0_2 nA0_2 cA0_2, .int .i64 xL0_3, .int .i64 xL0_4, .bool xL0_5] 24 (0, 0))) := (hbw3.block _ (by omega)).trans i_a0_w2.out
  clear i_a0_w2
  have i_a1_w3 : Hid (w3.heap[(w.heap.size + 1)]? = some (.cells #[.int .i64 xL1_0, .int .i64 xL1_1, .slice aA1_2 nA1_2 cA1_2, .int .i64 xL1_3, .int .i64 xL1_4, .bool xL1_5] 24 (0, 0))) := (hbw3.block _ (by omega)).trans i_a1_w2.out
  clear i_a1_w2
  clear hbw3
  by_cases hk0 : ((K0 : Nat) : Int) ≤ 1048576
  case neg =>
    rw [szAns_no hk0]
    go_wp2
    go_ret
    exact ⟨rfl, bw3⟩
  rw [szAns_yes hk0]
  have hl0 : ¬ (1048576 - ((K0 : Nat) : Int) < 0) := by omega
  have zl_a1 : (w.heap.size + 1) < w3.heap.size := by omega
  have y_a1_0 : w3.cell? ⟨(w.heap.size + 1), 0, none⟩ = some (.int .i64 xL1_0) := box_cell i_a1_w3.out rfl
  have y_a1_1 : w3.cell? ⟨(w.heap.size + 1), 1, none⟩ = some (.int .i64 xL1_1) := box_cell i_a1_w3.out rfl
  have y_a1_2 : w3.cell? ⟨(w.heap.size + 1), 2, none⟩ = some (.slice aA1_2 nA1_2 cA1_2) := box_cell i_a1_w3.out rfl
  have y_a1_3 : w3.cell? ⟨(w.heap.size + 1), 3, none⟩ = some (.int .i64 xL1_3) := box_cell i_a1_w3.out rfl
  have y_a1_4 : w3.cell? ⟨(w.heap.size + 1), 4, none⟩ = some (.int .i64 xL1_4) := box_cell i_a1_w3.out rfl
  have y_a1_5 : w3.cell? ⟨(w.heap.size + 1), 5, none⟩ = some (.bool xL1_5) := box_cell i_a1_w3.out rfl
  go_wp2_with fail
  clear zl_a1 y_a1_0 y_a1_1 y_a1_2 y_a1_3 y_a1_4 y_a1_5
  refine (qsz1.out _ (1048576 - ((K0 : Nat) : Int)) bw3 (by omega) (by omega)).mono ?_
  rintro e w4 ⟨rfl, hbw4⟩
  have zw4 : w3.heap.size ≤ w4.heap.size := hbw4.size
  have bw4 := bw3.trans (hbw4.mono bw3.size)
  clear bw3
  have i_a0_w4 : Hid (w4.heap[w.heap.size]? = some (.cells #[.int .i64 xL0_0, .int .i64 xL0_1, .slice aA0_2 nA0_2 cA0_2, .int .i64 xL0_3, .int .i64 xL0_4, .bool xL0_5] 24 (0, 0))) := (hbw4.block _ (by omega)).trans i_a0_w3.out
  clear i_a0_w3
  have i_a1_w4 : Hid (w4.heap[(w.heap.size + 1)]? = some (.cells #[.int .i64 xL1_0, .int .i64 xL1_1, .slice aA1_2 nA1_2 cA1_2, .int .i64 xL1_3, .int .i64 xL1_4, .bool xL1_5] 24 (0, 0))) := (hbw4.block _ (by omega)).trans i_a1_w3.out
  clear i_a1_w3
  clear hbw4
  by_cases hk1 : ((K1 : Nat) : Int) ≤ 1048576 - ((K0 : Nat) : Int)
  case neg =>
    rw [szAns_no hk1]
    go_wp2
    go_ret
    exact ⟨rfl, bw4⟩
  rw [szAns_yes hk1]
  have hl1 : ¬ (1048576 - ((K0 : Nat) : Int) - ((K1 : Nat) : Int) < 0) := by omega
  have HZ0 : Hid (shGrid.sz d0 ≤ 1048576) := by show shGrid.sz d0 ≤ 1048576; rw [← HK0.out]; omega
  have hcc0 := qcd0.out HZ0.out
  have HZ1 : Hid (shGrid.sz d1 ≤ 1048576) := by show shGrid.sz d1 ≤ 1048576; rw [← HK1.out]; omega
  have hcc1 := qcd1.out HZ1.out
  have zlt : w.heap.size < w4.heap.size := by omega
  have zlt4 : (w.heap.size + 1) < w4.heap.size := by omega
  have hbb : Below w4.heap.size w4 w4 := Below.refl _ _
  have ya0 : w4.cell? ⟨w.heap.size, 0, none⟩ = some (.int .i64 xL0_0) := box_cell i_a0_w4.out rfl
  have ya1 : w4.cell? ⟨w.heap.size, 1, none⟩ = some (.int .i64 xL0_1) := box_cell i_a0_w4.out rfl
  have ya2 : w4.cell? ⟨w.heap.size, 2, none⟩ = some (.slice aA0_2 nA0_2 cA0_2) := box_cell i_a0_w4.out rfl
  have ya3 : w4.cell? ⟨w.heap.size, 3, none⟩ = some (.int .i64 xL0_3) := box_cell i_a0_w4.out rfl
  have ya4 : w4.cell? ⟨w.heap.size, 4, none⟩ = some (.int .i64 xL0_4) := box_cell i_a0_w4.out rfl
  have ya5 : w4.cell? ⟨w.heap.size, 5, none⟩ = some (.bool xL0_5) := box_cell i_a0_w4.out rfl
  have yb0 : w4.cell? ⟨(w.heap.size + 1), 0, none⟩ = some (.int .i64 xL1_0) := box_cell i_a1_w4.out rfl
  have yb1 : w4.cell? ⟨(w.heap.size + 1), 1, none⟩ = some (.int .i64 xL1_1) := box_cell i_a1_w4.out rfl
  have yb2 : w4.cell? ⟨(w.heap.size + 1), 2, none⟩ = some (.slice aA1_2 nA1_2 cA1_2) := box_cell i_a1_w4.out rfl
  have yb3 : w4.cell? ⟨(w.heap.size + 1), 3, none⟩ = some (.int .i64 xL1_3) := box_cell i_a1_w4.out rfl
  have yb4 : w4.cell? ⟨(w.heap.size + 1), 4, none⟩ = some (.int .i64 xL1_4) := box_cell i_a1_w4.out rfl
  have yb5 : w4.cell? ⟨(w.heap.size + 1), 5, none⟩ = some (.bool xL1_5) := box_cell i_a1_w4.out rfl
  go_wp2_with fail
  have tok6 : True := trivial
  go_region_held (fun w' => w'.cell? ⟨w.heap.size, 0, none⟩ = some (.int .i64 xL0_0) ∧ w'.cell? ⟨w.heap.size, 1, none⟩ = some (.int .i64 xL0_1) ∧ w'.cell? ⟨w.heap.size, 2, none⟩ = some (.slice aA0_2 nA0_2 cA0_2) ∧ w'.cell? ⟨w.heap.size, 3, none⟩ = some (.int .i64 xL0_3) ∧ w'.cell? ⟨w.heap.size, 4, none⟩ = some (.int .i64 xL0_4) ∧ w'.cell? ⟨w.heap.size, 5, none⟩ = some (.bool xL0_5) ∧ w'.cell? ⟨(w.heap.size + 1), 0, none⟩ = some (.int .i64 xL1_0) ∧ w'.cell? ⟨(w.heap.size + 1), 1, none⟩ = some (.int .i64 xL1_1) ∧ w'.cell? ⟨(w.heap.size + 1), 2, none⟩ = some (.slice aA1_2 nA1_2 cA1_2) ∧ w'.cell? ⟨(w.heap.size + 1), 3, none⟩ = some (.int .i64 xL1_3) ∧ w'.cell? ⟨(w.heap.size + 1), 4, none⟩ = some (.int .i64 xL1_4) ∧ w'.cell? ⟨(w.heap.size + 1), 5, none⟩ = some (.bool xL1_5))
    (first | go_keep | (refine ⟨?_, ?_, ?_, ?_, ?_, ?_, ?_, ?_, ?_, ?_, ?_, ?_⟩ <;> assumption))
    (first | (clear tok6; go_at_call 7; refine (qto0.out _ (bw4.drew) HZ0.out).mono ?_; rintro e w5 ⟨cs6, F6, rfl, o6, nd6, hb6⟩; have HC6 : Below w4.heap.size w4 w5 := hbb.drew.trans (hb6.mono hbb.drew.size); have HB6 := bw4.trans (HC6.mono bw4.size); have zz6 := HC6.size; have za0 : w5.cell? ⟨w.heap.size, 0, none⟩ = some (.int .i64 xL0_0) := (hb6.cell (p := ⟨w.heap.size, 0, none⟩) (by simp; omega)).trans ya0; have za1 : w5.cell? ⟨w.heap.size, 1, none⟩ = some (.int .i64 xL0_1) := (hb6.cell (p := ⟨w.heap.size, 1, none⟩) (by simp; omega)).trans ya1; have za2 : w5.cell? ⟨w.heap.size, 2, none⟩ = some (.slice aA0_2 nA0_2 cA0_2) := (hb6.cell (p := ⟨w.heap.size, 2, none⟩) (by simp; omega)).trans ya2; have za3 : w5.cell? ⟨w.heap.size, 3, none⟩ = some (.int .i64 xL0_3) := (hb6.cell (p := ⟨w.heap.size, 3, none⟩) (by simp; omega)).trans ya3; have za4 : w5.cell? ⟨w.heap.size, 4, none⟩ = some (.int .i64 xL0_4) := (hb6.cell (p := ⟨w.heap.size, 4, none⟩) (by simp; omega)).trans ya4; have za5 : w5.cell? ⟨w.heap.size, 5, none⟩ = some (.bool xL0_5) := (hb6.cell (p := ⟨w.heap.size, 5, none⟩) (by simp; omega)).trans ya5; have zb0 : w5.cell? ⟨(w.heap.size + 1), 0, none⟩ = some (.int .i64 xL1_0) := (hb6.cell (p := ⟨(w.heap.size + 1), 0, none⟩) (by simp; omega)).trans yb0; have zb1 : w5.cell? ⟨(w.heap.size + 1), 1, none⟩ = some (.int .i64 xL1_1) := (hb6.cell (p := ⟨(w.heap.size + 1), 1, none⟩) (by simp; omega)).trans yb1; have zb2 : w5.cell? ⟨(w.heap.size + 1), 2, none⟩ = some (.slice aA1_2 nA1_2 cA1_2) := (hb6.cell (p := ⟨(w.heap.size + 1), 2, none⟩) (by simp; omega)).trans yb2; have zb3 : w5.cell? ⟨(w.heap.size + 1), 3, none⟩ = some (.int .i64 xL1_3) := (hb6.cell (p := ⟨(w.heap.size + 1), 3, none⟩) (by simp; omega)).trans yb3; have zb4 : w5.cell? ⟨(w.heap.size + 1), 4, none⟩ = some (.int .i64 xL1_4) := (hb6.cell (p := ⟨(w.heap.size + 1), 4, none⟩) (by simp; omega)).trans yb4; have zb5 : w5.cell? ⟨(w.heap.size + 1), 5, none⟩ = some (.bool xL1_5) := (hb6.cell (p := ⟨(w.heap.size + 1), 5, none⟩) (by simp; omega)).trans yb5) | (go_at_call 7; refine (qto1.out _ (by first | exact HB6 | exact HB6.drew) HZ1.out).mono ?_; rintro e w6 ⟨cs7, F7, rfl, o7, nd7, hb7⟩; have HC7 : Below w4.heap.size w4 w6 := (by first | exact HC6.trans (hb7.mono HC6.size) | exact HC6.drew.trans (hb7.mono HC6.drew.size)); have zz7 := HC7.size; have P6 : Own shGrid w6 0 cs6 d0 F6 := (by first | exact (o6.later hb7).base (Nat.zero_le _) | exact (o6.later ((Below.refl _ _).drew.trans hb7)).base (Nat.zero_le _)); have P7 : Own shGrid w6 0 cs7 d1 F7 := o7.base (Nat.zero_le _); have xa0 : w6.cell? ⟨w.heap.size, 0, none⟩ = some (.int .i64 xL0_0) := (hb7.cell (p := ⟨w.heap.size, 0, none⟩) (by simp; omega)).trans za0; have xa1 : w6.cell? ⟨w.heap.size, 1, none⟩ = some (.int .i64 xL0_1) := (hb7.cell (p := ⟨w.heap.size, 1, none⟩) (by simp; omega)).trans za1; have xa2 : w6.cell? ⟨w.heap.size, 2, none⟩ = some (.slice aA0_2 nA0_2 cA0_2) := (hb7.cell (p := ⟨w.heap.size, 2, none⟩) (by simp; omega)).trans za2; have xa3 : w6.cell? ⟨w.heap.size, 3, none⟩ = some (.int .i64 xL0_3) := (hb7.cell (p := ⟨w.heap.size, 3, none⟩) (by simp; omega)).trans za3; have xa4 : w6.cell? ⟨w.heap.size, 4, none⟩ = some (.int .i64 xL0_4) := (hb7.cell (p := ⟨w.heap.size, 4, none⟩) (by simp; omega)).trans za4; have xa5 : w6.cell? ⟨w.heap.size, 5, none⟩ = some (.bool xL0_5) := (hb7.cell (p := ⟨w.heap.size, 5, none⟩) (by simp; omega)).trans za5; have xb0 : w6.cell? ⟨(w.heap.size + 1), 0, none⟩ = some (.int .i64 xL1_0) := (hb7.cell (p := ⟨(w.heap.size + 1), 0, none⟩) (by simp; omega)).trans zb0; have xb1 : w6.cell? ⟨(w.heap.size + 1), 1, none⟩ = some (.int .i64 xL1_1) := (hb7.cell (p := ⟨(w.heap.size + 1), 1, none⟩) (by simp; omega)).trans zb1; have xb2 : w6.cell? ⟨(w.heap.size + 1), 2, none⟩ = some (.slice aA1_2 nA1_2 cA1_2) := (hb7.cell (p := ⟨(w.heap.size + 1), 2, none⟩) (by simp; omega)).trans zb2; have xb3 : w6.cell? ⟨(w.heap.size + 1), 3, none⟩ = some (.int .i64 xL1_3) := (hb7.cell (p := ⟨(w.heap.size + 1), 3, none⟩) (by simp; omega)).trans zb3; have xb4 : w6.cell? ⟨(w.heap.size + 1), 4, none⟩ = some (.int .i64 xL1_4) := (hb7.cell (p := ⟨(w.heap.size + 1), 4, none⟩) (by simp; omega)).trans zb4; have xb5 : w6.cell? ⟨(w.heap.size + 1), 5, none⟩ = some (.bool xL1_5) := (hb7.cell (p := ⟨(w.heap.size + 1), 5, none⟩) (by simp; omega)).trans zb5) | (go_at_call 12; refine (qS.out _ cs6 F6 cs7 F7 (by first | exact P6 | exact P6.later (Below.refl _ _).drew) (by first | exact P7 | exact P7.later (Below.refl _ _).drew) HZ0.out HZ1.out).mono ?_; rintro e w7 ⟨rfl, hb8⟩; have HC8 : Below w4.heap.size w4 w7 := (by first | exact HC7.trans (hb8.mono HC7.size) | exact HC7.drew.trans (hb8.mono HC7.drew.size)); have va0 : w7.cell? ⟨w.heap.size, 0, none⟩ = some (.int .i64 xL0_0) := (hb8.cell (p := ⟨w.heap.size, 0, none⟩) (by simp; omega)).trans xa0; have va1 : w7.cell? ⟨w.heap.size, 1, none⟩ = some (.int .i64 xL0_1) := (hb8.cell (p := ⟨w.heap.size, 1, none⟩) (by simp; omega)).trans xa1; have va2 : w7.cell? ⟨w.heap.size, 2, none⟩ = some (.slice aA0_2 nA0_2 cA0_2) := (hb8.cell (p := ⟨w.heap.size, 2, none⟩) (by simp; omega)).trans xa2; have va3 : w7.cell? ⟨w.heap.size, 3, none⟩ = some (.int .i64 xL0_3) := (hb8.cell (p := ⟨w.heap.size, 3, none⟩) (by simp; omega)).trans xa3; have va4 : w7.cell? ⟨w.heap.size, 4, none⟩ = some (.int .i64 xL0_4) := (hb8.cell (p := ⟨w.heap.size, 4, none⟩) (by simp; omega)).trans xa4; have va5 : w7.cell? ⟨w.heap.size, 5, none⟩ = some (.bool xL0_5) := (hb8.cell (p := ⟨w.heap.size, 5, none⟩) (by simp; omega)).trans xa5; have vb0 : w7.cell? ⟨(w.heap.size + 1), 0, none⟩ = some (.int .i64 xL1_0) := (hb8.cell (p := ⟨(w.heap.size + 1), 0, none⟩) (by simp; omega)).trans xb0; have vb1 : w7.cell? ⟨(w.heap.size + 1), 1, none⟩ = some (.int .i64 xL1_1) := (hb8.cell (p := ⟨(w.heap.size + 1), 1, none⟩) (by simp; omega)).trans xb1; have vb2 : w7.cell? ⟨(w.heap.size + 1), 2, none⟩ = some (.slice aA1_2 nA1_2 cA1_2) := (hb8.cell (p := ⟨(w.heap.size + 1), 2, none⟩) (by simp; omega)).trans xb2; have vb3 : w7.cell? ⟨(w.heap.size + 1), 3, none⟩ = some (.int .i64 xL1_3) := (hb8.cell (p := ⟨(w.heap.size + 1), 3, none⟩) (by simp; omega)).trans xb3; have vb4 : w7.cell? ⟨(w.heap.size + 1), 4, none⟩ = some (.int .i64 xL1_4) := (hb8.cell (p := ⟨(w.heap.size + 1), 4, none⟩) (by simp; omega)).trans xb4; have vb5 : w7.cell? ⟨(w.heap.size + 1), 5, none⟩ = some (.bool xL1_5) := (hb8.cell (p := ⟨(w.heap.size + 1), 5, none⟩) (by simp; omega)).trans xb5))
  clear hb6 hb7 hb8 o6 o7 nd6 nd7 P6 P7 HC6 HC7 HB6 zz6 zz7 hbb zlt zlt4 ya0 ya1 ya2 ya3 ya4 ya5 yb0 yb1 yb2 yb3 yb4 yb5 za0 za1 za2 za3 za4 za5 zb0 zb1 zb2 zb3 zb4 zb5 xa0 xa1 xa2 xa3 xa4 xa5 xb0 xb1 xb2 xb3 xb4 xb5 va0 va1 va2 va3 va4 va5 vb0 vb1 vb2 vb3 vb4 vb5
  have zw7 : w4.heap.size ≤ w7.heap.size := HC8.size
  have bw7 := bw4.trans (HC8.mono bw4.size)
  clear bw4
  have i_a0_w7 : Hid (w7.heap[w.heap.size]? = some (.cells #[.int .i64 xL0_0, .int .i64 xL0_1, .slice aA0_2 nA0_2 cA0_2, .int .i64 xL0_3, .int .i64 xL0_4, .bool xL0_5] 24 (0, 0))) := (HC8.block _ (by omega)).trans i_a0_w4.out
  clear i_a0_w4
  have i_a1_w7 : Hid (w7.heap[(w.heap.size + 1)]? = some (.cells #[.int .i64 xL1_0, .int .i64 xL1_1, .slice aA1_2 nA1_2 cA1_2, .int .i64 xL1_3, .int .i64 xL1_4, .bool xL1_5] 24 (0, 0))) := (HC8.block _ (by omega)).trans i_a1_w4.out
  clear i_a1_w4
  clear HC8
  have sw7 : Below w7.heap.size w7 w7 := Below.refl _ _
  have zl_a0 : w.heap.size < w7.heap.size := by omega
  have y_a0_0 : w7.cell? ⟨w.heap.size, 0, none⟩ = some (.int .i64 xL0_0) := box_cell i_a0_w7.out rfl
  have y_a0_1 : w7.cell? ⟨w.heap.size, 1, none⟩ = some (.int .i64 xL0_1) := box_cell i_a0_w7.out rfl
  have y_a0_2 : w7.cell? ⟨w.heap.size, 2, none⟩ = some (.slice aA0_2 nA0_2 cA0_2) := box_cell i_a0_w7.out rfl
  have y_a0_3 : w7.cell? ⟨w.heap.size, 3, none⟩ = some (.int .i64 xL0_3) := box_cell i_a0_w7.out rfl
  have y_a0_4 : w7.cell? ⟨w.heap.size, 4, none⟩ = some (.int .i64 xL0_4) := box_cell i_a0_w7.out rfl
  have y_a0_5 : w7.cell? ⟨w.heap.size, 5, none⟩ = some (.bool xL0_5) := box_cell i_a0_w7.out rfl
  go_wp2_with fail
  clear zl_a0 y_a0_0 y_a0_1 y_a0_2 y_a0_3 y_a0_4 y_a0_5
  refine (qto0.out _ bw7 HZ0.out).mono ?_
  rintro e w8 ⟨cs_x0, F_x0, he_x0, p_x0, nd_x0, hbw8⟩
  have zw8 : w7.heap.size ≤ w8.heap.size := hbw8.size
  have bw8 := bw7.trans (hbw8.mono bw7.size)
  clear bw7
  have sw8 := sw7.trans (hbw8.mono sw7.size)
  clear sw7
  have i_a0_w8 : Hid (w8.heap[w.heap.size]? = some (.cells #[.int .i64 xL0_0, .int .i64 xL0_1, .slice aA0_2 nA0_2 cA0_2, .int .i64 xL0_3, .int .i64 xL0_4, .bool xL0_5] 24 (0, 0))) := (hbw8.block _ (by omega)).trans i_a0_w7.out
  clear i_a0_w7
  have i_a1_w8 : Hid (w8.heap[(w.heap.size + 1)]? = some (.cells #[.int .i64 xL1_0, .int .i64 xL1_1, .slice aA1_2 nA1_2 cA1_2, .int .i64 xL1_3, .int .i64 xL1_4, .bool xL1_5] 24 (0, 0))) := (hbw8.block _ (by omega)).trans i_a1_w7.out
  clear i_a1_w7
  clear hbw8
  have lt_x0 : Hid (∀ g ∈ F_x0, w7.heap.size ≤ g ∧ g < w8.heap.size) := p_x0.lt
  obtain ⟨ax0_2, nx0_2, cx0_2, hq_x0, _⟩ := open_Grid p_x0.reads
  rw [← HEL0.out.1, ← HEL0.out.2.1, ← HEL0.out.2.2.1, ← HEL0.out.2.2.2.1, ← HEL0.out.2.2.2.2.1] at hq_x0
  subst hq_x0
  subst he_x0
  have zl_a1 : (w.heap.size + 1) < w8.heap.size := by omega
  have y_a1_0 : w8.cell? ⟨(w.heap.size + 1), 0, none⟩ = some (.int .i64 xL1_0) := box_cell i_a1_w8.out rfl
  have y_a1_1 : w8.cell? ⟨(w.heap.size + 1), 1, none⟩ = some (.int .i64 xL1_1) := box_cell i_a1_w8.out rfl
  have y_a1_2 : w8.cell? ⟨(w.heap.size + 1), 2, none⟩ = some (.slice aA1_2 nA1_2 cA1_2) := box_cell i_a1_w8.out rfl
  have y_a1_3 : w8.cell? ⟨(w.heap.size + 1), 3, none⟩ = some (.int .i64 xL1_3) := box_cell i_a1_w8.out rfl
  have y_a1_4 : w8.cell? ⟨(w.heap.size + 1), 4, none⟩ = some (.int .i64 xL1_4) := box_cell i_a1_w8.out rfl
  have y_a1_5 : w8.cell? ⟨(w.heap.size + 1), 5, none⟩ = some (.bool xL1_5) := box_cell i_a1_w8.out rfl
  go_wp2_with fail
  clear zl_a1 y_a1_0 y_a1_1 y_a1_2 y_a1_3 y_a1_4 y_a1_5
  obtain ⟨w9, hw9⟩ : ∃ W, W = w8.alloc (.cells #[.int .i64 xL0_0, .int .i64 xL0_1, .slice ax0_2 nx0_2 cx0_2, .int .i64 xL0_3, .int .i64 xL0_4, .bool xL0_5] 26) := ⟨_, rfl⟩
  have hbw9 : Below w8.heap.size w8 w9 := by rw [hw9]; exact (Below.refl _ _).alloc (Nat.le_refl _) _
  have i_x0_w9 : Hid (w9.heap[w8.heap.size]? = some (.cells #[.int .i64 xL0_0, .int .i64 xL0_1, .slice ax0_2 nx0_2 cx0_2, .int .i64 xL0_3, .int .i64 xL0_4, .bool xL0_5] 26 (0, 0))) := by show _ = _; rw [hw9]; exact heap_alloc_new w8 _
  have zzw9 : w9.heap.size = w8.heap.size + 1 := by rw [hw9]; simp
  rw [← hw9]
  clear hw9
  have zw9 : w8.heap.size ≤ w9.heap.size := hbw9.size
  have bw9 := bw8.trans (hbw9.mono bw8.size)
  clear bw8
  have sw9 := sw8.trans (hbw9.mono sw8.size)
  clear sw8
  have o_x0_w9 := p_x0.later hbw9
  clear p_x0
  have i_a0_w9 : Hid (w9.heap[w.heap.size]? = some (.cells #[.int .i64 xL0_0, .int .i64 xL0_1, .slice aA0_2 nA0_2 cA0_2, .int .i64 xL0_3, .int .i64 xL0_4, .bool xL0_5] 24 (0, 0))) := (hbw9.block _ (by omega)).trans i_a0_w8.out
  clear i_a0_w8
  have i_a1_w9 : Hid (w9.heap[(w.heap.size + 1)]? = some (.cells #[.int .i64 xL1_0, .int .i64 xL1_1, .slice aA1_2 nA1_2 cA1_2, .int .i64 xL1_3, .int .i64 xL1_4, .bool xL1_5] 24 (0, 0))) := (hbw9.block _ (by omega)).trans i_a1_w8.out
  clear i_a1_w8
  clear hbw9
  refine (qto1.out _ bw9 HZ1.out).mono ?_
  rintro e w10 ⟨cs_x1, F_x1, he_x1, p_x1, nd_x1, hbw10⟩
  have zw10 : w9.heap.size ≤ w10.heap.size := hbw10.size
  have bw10 := bw9.trans (hbw10.mono bw9.size)
  clear bw9
  have sw10 := sw9.trans (hbw10.mono sw9.size)
  clear sw9
  have o_x0_w10 := o_x0_w9.later hbw10
  clear o_x0_w9
  have i_a0_w10 : Hid (w10.heap[w.heap.size]? = some (.cells #[.int .i64 xL0_0, .int .i64 xL0_1, .slice aA0_2 nA0_2 cA0_2, .int .i64 xL0_3, .int .i64 xL0_4, .bool xL0_5] 24 (0, 0))) := (hbw10.block _ (by omega)).trans i_a0_w9.out
  clear i_a0_w9
  have i_a1_w10 : Hid (w10.heap[(w.heap.size + 1)]? = some (.cells #[.int .i64 xL1_0, .int .i64 xL1_1, .slice aA1_2 nA1_2 cA1_2, .int .i64 xL1_3, .int .i64 xL1_4, .bool xL1_5] 24 (0, 0))) := (hbw10.block _ (by omega)).trans i_a1_w9.out
  clear i_a1_w9
  have i_x0_w10 : Hid (w10.heap[w8.heap.size]? = some (.cells #[.int .i64 xL0_0, .int .i64 xL0_1, .slice ax0_2 nx0_2 cx0_2, .int .i64 xL0_3, .int .i64 xL0_4, .bool xL0_5] 26 (0, 0))) := (hbw10.block _ (by omega)).trans i_x0_w9.out
  clear i_x0_w9
  clear hbw10
  have lt_x1 : Hid (∀ g ∈ F_x1, w9.heap.size ≤ g ∧ g < w10.heap.size) := p_x1.lt
  obtain ⟨ax1_2, nx1_2, cx1_2, hq_x1, _⟩ := open_Grid p_x1.reads
  rw [← HEL1.out.1, ← HEL1.out.2.1, ← HEL1.out.2.2.1, ← HEL1.out.2.2.2.1, ← HEL1.out.2.2.2.2.1] at hq_x1
  subst hq_x1
  subst he_x1
  have zl_x0 : w8.heap.size < w10.heap.size := by omega
  have y_x0_0 : w10.cell? ⟨w8.heap.size, 0, none⟩ = some (.int .i64 xL0_0) := box_cell i_x0_w10.out rfl
  have y_x0_1 : w10.cell? ⟨w8.heap.size, 1, none⟩ = some (.int .i64 xL0_1) := box_cell i_x0_w10.out rfl
  have y_x0_2 : w10.cell? ⟨w8.heap.size, 2, none⟩ = some (.slice ax0_2 nx0_2 cx0_2) := box_cell i_x0_w10.out rfl
  have y_x0_3 : w10.cell? ⟨w8.heap.size, 3, none⟩ = some (.int .i64 xL0_3) := box_cell i_x0_w10.out rfl
  have y_x0_4 : w10.cell? ⟨w8.heap.size, 4, none⟩ = some (.int .i64 xL0_4) := box_cell i_x0_w10.out rfl
  have y_x0_5 : w10.cell? ⟨w8.heap.size, 5, none⟩ = some (.bool xL0_5) := box_cell i_x0_w10.out rfl
  go_wp2_with fail
  clear zl_x0 y_x0_0 y_x0_1 y_x0_2 y_x0_3 y_x0_4 y_x0_5
  obtain ⟨w11, hw11⟩ : ∃ W, W = w10.alloc (.cells #[.int .i64 xL1_0, .int .i64 xL1_1, .slice ax1_2 nx1_2 cx1_2, .int .i64 xL1_3, .int .i64 xL1_4, .bool xL1_5] 26) := ⟨_, rfl⟩
  have hbw11 : Below w10.heap.size w10 w11 := by rw [hw11]; exact (Below.refl _ _).alloc (Nat.le_refl _) _
  have i_x1_w11 : Hid (w11.heap[w10.heap.size]? = some (.cells #[.int .i64 xL1_0, .int .i64 xL1_1, .slice ax1_2 nx1_2 cx1_2, .int .i64 xL1_3, .int .i64 xL1_4, .bool xL1_5] 26 (0, 0))) := by show _ = _; rw [hw11]; exact heap_alloc_new w10 _
  have zzw11 : w11.heap.size = w10.heap.size + 1 := by rw [hw11]; simp
  rw [← hw11]
  clear hw11
  have zw11 : w10.heap.size ≤ w11.heap.size := hbw11.size
  have bw11 := bw10.trans (hbw11.mono bw10.size)
  clear bw10
  have sw11 := sw10.trans (hbw11.mono sw10.size)
  clear sw10
  have o_x0_w11 := o_x0_w10.later hbw11
  clear o_x0_w10
  have o_x1_w11 := p_x1.later hbw11
  clear p_x1
  have i_a0_w11 : Hid (w11.heap[w.heap.size]? = some (.cells #[.int .i64 xL0_0, .int .i64 xL0_1, .slice aA0_2 nA0_2 cA0_2, .int .i64 xL0_3, .int .i64 xL0_4, .bool xL0_5] 24 (0, 0))) := (hbw11.block _ (by omega)).trans i_a0_w10.out
  clear i_a0_w10
  have i_a1_w11 : Hid (w11.heap[(w.heap.size + 1)]? = some (.cells #[.int .i64 xL1_0, .int .i64 xL1_1, .slice aA1_2 nA1_2 cA1_2, .int .i64 xL1_3, .int .i64 xL1_4, .bool xL1_5] 24 (0, 0))) := (hbw11.block _ (by omega)).trans i_a1_w10.out
  clear i_a1_w10
  have i_x0_w11 : Hid (w11.heap[w8.heap.size]? = some (.cells #[.int .i64 xL0_0, .int .i64 xL0_1, .slice ax0_2 nx0_2 cx0_2, .int .i64 xL0_3, .int .i64 xL0_4, .bool xL0_5] 26 (0, 0))) := (hbw11.block _ (by omega)).trans i_x0_w10.out
  clear i_x0_w10
  clear hbw11
  refine (qI.out _ _ _ _ _ (o_x0_w11.base (Nat.zero_le _)) (o_x1_w11.base (Nat.zero_le _)) HZ0.out HZ1.out).mono ?_
  rintro e w12 ⟨rfl, hbw12⟩
  have zw12 : w11.heap.size ≤ w12.heap.size := hbw12.size
  have bw12 := bw11.trans (hbw12.mono bw11.size)
  clear bw11
  have sw12 := sw11.trans (hbw12.mono sw11.size)
  clear sw11
  have o_x0_w12 := o_x0_w11.later hbw12
  clear o_x0_w11
  have o_x1_w12 := o_x1_w11.later hbw12
  clear o_x1_w11
  have i_a0_w12 : Hid (w12.heap[w.heap.size]? = some (.cells #[.int .i64 xL0_0, .int .i64 xL0_1, .slice aA0_2 nA0_2 cA0_2, .int .i64 xL0_3, .int .i64 xL0_4, .bool xL0_5] 24 (0, 0))) := (hbw12.block _ (by omega)).trans i_a0_w11.out
  clear i_a0_w11
  have i_a1_w12 : Hid (w12.heap[(w.heap.size + 1)]? = some (.cells #[.int .i64 xL1_0, .int .i64 xL1_1, .slice aA1_2 nA1_2 cA1_2, .int .i64 xL1_3, .int .i64 xL1_4, .bool xL1_5] 24 (0, 0))) := (hbw12.block _ (by omega)).trans i_a1_w11.out
  clear i_a1_w11
  have i_x0_w12 : Hid (w12.heap[w8.heap.size]? = some (.cells #[.int .i64 xL0_0, .int .i64 xL0_1, .slice ax0_2 nx0_2 cx0_2, .int .i64 xL0_3, .int .i64 xL0_4, .bool xL0_5] 26 (0, 0))) := (hbw12.block _ (by omega)).trans i_x0_w11.out
  clear i_x0_w11
  have i_x1_w12 : Hid (w12.heap[w10.heap.size]? = some (.cells #[.int .i64 xL1_0, .int .i64 xL1_1, .slice ax1_2 nx1_2 cx1_2, .int .i64 xL1_3, .int .i64 xL1_4, .bool xL1_5] 26 (0, 0))) := (hbw12.block _ (by omega)).trans i_x1_w11.out
  clear i_x1_w11
  clear hbw12
  have zlt : w.heap.size < w12.heap.size := by omega
  have zlt4 : w8.heap.size < w12.heap.size := by omega
  have hbb : Below w12.heap.size w12 w12 := Below.refl _ _
  have ya0 : w12.cell? ⟨w.heap.size, 0, none⟩ = some (.int .i64 xL0_0) := box_cell i_a0_w12.out rfl
  have ya1 : w12.cell? ⟨w.heap.size, 1, none⟩ = some (.int .i64 xL0_1) := box_cell i_a0_w12.out rfl
  have ya2 : w12.cell? ⟨w.heap.size, 2, none⟩ = some (.slice aA0_2 nA0_2 cA0_2) := box_cell i_a0_w12.out rfl
  have ya3 : w12.cell? ⟨w.heap.size, 3, none⟩ = some (.int .i64 xL0_3) := box_cell i_a0_w12.out rfl
  have ya4 : w12.cell? ⟨w.heap.size, 4, none⟩ = some (.int .i64 xL0_4) := box_cell i_a0_w12.out rfl
  have ya5 : w12.cell? ⟨w.heap.size, 5, none⟩ = some (.bool xL0_5) := box_cell i_a0_w12.out rfl
  have yb0 : w12.cell? ⟨w8.heap.size, 0, none⟩ = some (.int .i64 xL0_0) := box_cell i_x0_w12.out rfl
  have yb1 : w12.cell? ⟨w8.heap.size, 1, none⟩ = some (.int .i64 xL0_1) := box_cell i_x0_w12.out rfl
  have yb2 : w12.cell? ⟨w8.heap.size, 2, none⟩ = some (.slice ax0_2 nx0_2 cx0_2) := box_cell i_x0_w12.out rfl
  have yb3 : w12.cell? ⟨w8.heap.size, 3, none⟩ = some (.int .i64 xL0_3) := box_cell i_x0_w12.out rfl
  have yb4 : w12.cell? ⟨w8.heap.size, 4, none⟩ = some (.int .i64 xL0_4) := box_cell i_x0_w12.out rfl
  have yb5 : w12.cell? ⟨w8.heap.size, 5, none⟩ = some (.bool xL0_5) := box_cell i_x0_w12.out rfl
  go_wp2_with fail
  go_region_held (fun w' => w'.cell? ⟨w.heap.size, 0, none⟩ = some (.int .i64 xL0_0) ∧ w'.cell? ⟨w.heap.size, 1, none⟩ = some (.int .i64 xL0_1) ∧ w'.cell? ⟨w.heap.size, 2, none⟩ = some (.slice aA0_2 nA0_2 cA0_2) ∧ w'.cell? ⟨w.heap.size, 3, none⟩ = some (.int .i64 xL0_3) ∧ w'.cell? ⟨w.heap.size, 4, none⟩ = some (.int .i64 xL0_4) ∧ w'.cell? ⟨w.heap.size, 5, none⟩ = some (.bool xL0_5) ∧ w'.cell? ⟨w8.heap.size, 0, none⟩ = some (.int .i64 xL0_0) ∧ w'.cell? ⟨w8.heap.size, 1, none⟩ = some (.int .i64 xL0_1) ∧ w'.cell? ⟨w8.heap.size, 2, none⟩ = some (.slice ax0_2 nx0_2 cx0_2) ∧ w'.cell? ⟨w8.heap.size, 3, none⟩ = some (.int .i64 xL0_3) ∧ w'.cell? ⟨w8.heap.size, 4, none⟩ = some (.int .i64 xL0_4) ∧ w'.cell? ⟨w8.heap.size, 5, none⟩ = some (.bool xL0_5))
    (first | go_keep | (refine ⟨?_, ?_, ?_, ?_, ?_, ?_, ?_, ?_, ?_, ?_, ?_, ?_⟩ <;> first | (refine (hb7.cell ?_).trans ?_; (have h6 := hb6.size; simp at h6 ⊢; omega); assumption) | (refine (hb6.cell ?_).trans ?_; (simp; omega); assumption)))
    (first | ((go_at_call 7; refine (qto0.out _ (bw12.drew) HZ0.out).mono ?_; rintro e w13 ⟨cs6, F6, rfl, o6, nd6, hb6⟩; have za0 : w13.cell? ⟨w.heap.size, 0, none⟩ = some (.int .i64 xL0_0) := (hb6.cell (p := ⟨w.heap.size, 0, none⟩) (by simp; omega)).trans ya0; have za1 : w13.cell? ⟨w.heap.size, 1, none⟩ = some (.int .i64 xL0_1) := (hb6.cell (p := ⟨w.heap.size, 1, none⟩) (by simp; omega)).trans ya1; have za2 : w13.cell? ⟨w.heap.size, 2, none⟩ = some (.slice aA0_2 nA0_2 cA0_2) := (hb6.cell (p := ⟨w.heap.size, 2, none⟩) (by simp; omega)).trans ya2; have za3 : w13.cell? ⟨w.heap.size, 3, none⟩ = some (.int .i64 xL0_3) := (hb6.cell (p := ⟨w.heap.size, 3, none⟩) (by simp; omega)).trans ya3; have za4 : w13.cell? ⟨w.heap.size, 4, none⟩ = some (.int .i64 xL0_4) := (hb6.cell (p := ⟨w.heap.size, 4, none⟩) (by simp; omega)).trans ya4; have za5 : w13.cell? ⟨w.heap.size, 5, none⟩ = some (.bool xL0_5) := (hb6.cell (p := ⟨w.heap.size, 5, none⟩) (by simp; omega)).trans ya5; have zb0 : w13.cell? ⟨w8.heap.size, 0, none⟩ = some (.int .i64 xL0_0) := (hb6.cell (p := ⟨w8.heap.size, 0, none⟩) (by simp; omega)).trans yb0; have zb1 : w13.cell? ⟨w8.heap.size, 1, none⟩ = some (.int .i64 xL0_1) := (hb6.cell (p := ⟨w8.heap.size, 1, none⟩) (by simp; omega)).trans yb1; have zb2 : w13.cell? ⟨w8.heap.size, 2, none⟩ = some (.slice ax0_2 nx0_2 cx0_2) := (hb6.cell (p := ⟨w8.heap.size, 2, none⟩) (by simp; omega)).trans yb2; have zb3 : w13.cell? ⟨w8.heap.size, 3, none⟩ = some (.int .i64 xL0_3) := (hb6.cell (p := ⟨w8.heap.size, 3, none⟩) (by simp; omega)).trans yb3; have zb4 : w13.cell? ⟨w8.heap.size, 4, none⟩ = some (.int .i64 xL0_4) := (hb6.cell (p := ⟨w8.heap.size, 4, none⟩) (by simp; omega)).trans yb4; have zb5 : w13.cell? ⟨w8.heap.size, 5, none⟩ = some (.bool xL0_5) := (hb6.cell (p := ⟨w8.heap.size, 5, none⟩) (by simp; omega)).trans yb5)) | ((go_at_call 9; refine (qeq0.out _ _ cs6 (o_x0_w12.later ((Below.drew hbb).trans (hb6.mono (by simp)))).reads o6.reads HZ0.out).mono ?_; rintro e w14 ⟨rfl, hb7⟩)))
  have hbw14 : Below w12.heap.size w12 w14 := hbb.drew.trans ((hb6.trans (hb7.mono hb6.size)).mono hbb.drew.size)
  clear hb6 hb7 o6 nd6 hbb zlt zlt4 ya0 ya1 ya2 ya3 ya4 ya5 yb0 yb1 yb2 yb3 yb4 yb5 za0 za1 za2 za3 za4 za5 zb0 zb1 zb2 zb3 zb4 zb5
  have zw14 : w12.heap.size ≤ w14.heap.size := hbw14.size
  have bw14 := bw12.trans (hbw14.mono bw12.size)
  clear bw12
  have sw14 := sw12.trans (hbw14.mono sw12.size)
  clear sw12
  have o_x0_w14 := o_x0_w12.later hbw14
  clear o_x0_w12
  have o_x1_w14 := o_x1_w12.later hbw14
  clear o_x1_w12
  have i_a0_w14 : Hid (w14.heap[w.heap.size]? = some (.cells #[.int .i64 xL0_0, .int .i64 xL0_1, .slice aA0_2 nA0_2 cA0_2, .int .i64 xL0_3, .int .i64 xL0_4, .bool xL0_5] 24 (0, 0))) := (hbw14.block _ (by omega)).trans i_a0_w12.out
  clear i_a0_w12
  have i_a1_w14 : Hid (w14.heap[(w.heap.size + 1)]? = some (.cells #[.int .i64 xL1_0, .int .i64 xL1_1, .slice aA1_2 nA1_2 cA1_2, .int .i64 xL1_3, .int .i64 xL1_4, .bool xL1_5] 24 (0, 0))) := (hbw14.block _ (by omega)).trans i_a1_w12.out
  clear i_a1_w12
  have i_x0_w14 : Hid (w14.heap[w8.heap.size]? = some (.cells #[.int .i64 xL0_0, .int .i64 xL0_1, .slice ax0_2 nx0_2 cx0_2, .int .i64 xL0_3, .int .i64 xL0_4, .bool xL0_5] 26 (0, 0))) := (hbw14.block _ (by omega)).trans i_x0_w12.out
  clear i_x0_w12
  have i_x1_w14 : Hid (w14.heap[w10.heap.size]? = some (.cells #[.int .i64 xL1_0, .int .i64 xL1_1, .slice ax1_2 nx1_2 cx1_2, .int .i64 xL1_3, .int .i64 xL1_4, .bool xL1_5] 26 (0, 0))) := (hbw14.block _ (by omega)).trans i_x1_w12.out
  clear i_x1_w12
  clear hbw14
  have zlt : (w.heap.size + 1) < w14.heap.size := by omega
  have zlt4 : w10.heap.size < w14.heap.size := by omega
  have hbb : Below w14.heap.size w14 w14 := Below.refl _ _
  have ya0 : w14.cell? ⟨(w.heap.size + 1), 0, none⟩ = some (.int .i64 xL1_0) := box_cell i_a1_w14.out rfl
  have ya1 : w14.cell? ⟨(w.heap.size + 1), 1, none⟩ = some (.int .i64 xL1_1) := box_cell i_a1_w14.out rfl
  have ya2 : w14.cell? ⟨(w.heap.size + 1), 2, none⟩ = some (.slice aA1_2 nA1_2 cA1_2) := box_cell i_a1_w14.out rfl
  have ya3 : w14.cell? ⟨(w.heap.size + 1), 3, none⟩ = some (.int .i64 xL1_3) := box_cell i_a1_w14.out rfl
  have ya4 : w14.cell? ⟨(w.heap.size + 1), 4, none⟩ = some (.int .i64 xL1_4) := box_cell i_a1_w14.out rfl
  have ya5 : w14.cell? ⟨(w.heap.size + 1), 5, none⟩ = some (.bool xL1_5) := box_cell i_a1_w14.out rfl
  have yb0 : w14.cell? ⟨w10.heap.size, 0, none⟩ = some (.int .i64 xL1_0) := box_cell i_x1_w14.out rfl
  have yb1 : w14.cell? ⟨w10.heap.size, 1, none⟩ = some (.int .i64 xL1_1) := box_cell i_x1_w14.out rfl
  have yb2 : w14.cell? ⟨w10.heap.size, 2, none⟩ = some (.slice ax1_2 nx1_2 cx1_2) := box_cell i_x1_w14.out rfl
  have yb3 : w14.cell? ⟨w10.heap.size, 3, none⟩ = some (.int .i64 xL1_3) := box_cell i_x1_w14.out rfl
  have yb4 : w14.cell? ⟨w10.heap.size, 4, none⟩ = some (.int .i64 xL1_4) := box_cell i_x1_w14.out rfl
  have yb5 : w14.cell? ⟨w10.heap.size, 5, none⟩ = some (.bool xL1_5) := box_cell i_x1_w14.out rfl
  go_wp2_with fail
  go_region_held (fun w' => w'.cell? ⟨(w.heap.size + 1), 0, none⟩ = some (.int .i64 xL1_0) ∧ w'.cell? ⟨(w.heap.size + 1), 1, none⟩ = some (.int .i64 xL1_1) ∧ w'.cell? ⟨(w.heap.size + 1), 2, none⟩ = some (.slice aA1_2 nA1_2 cA1_2) ∧ w'.cell? ⟨(w.heap.size + 1), 3, none⟩ = some (.int .i64 xL1_3) ∧ w'.cell? ⟨(w.heap.size + 1), 4, none⟩ = some (.int .i64 xL1_4) ∧ w'.cell? ⟨(w.heap.size + 1), 5, none⟩ = some (.bool xL1_5) ∧ w'.cell? ⟨w10.heap.size, 0, none⟩ = some (.int .i64 xL1_0) ∧ w'.cell? ⟨w10.heap.size, 1, none⟩ = some (.int .i64 xL1_1) ∧ w'.cell? ⟨w10.heap.size, 2, none⟩ = some (.slice ax1_2 nx1_2 cx1_2) ∧ w'.cell? ⟨w10.heap.size, 3, none⟩ = some (.int .i64 xL1_3) ∧ w'.cell? ⟨w10.heap.size, 4, none⟩ = some (.int .i64 xL1_4) ∧ w'.cell? ⟨w10.heap.size, 5, none⟩ = some (.bool xL1_5))
    (first | go_keep | (refine ⟨?_, ?_, ?_, ?_, ?_, ?_, ?_, ?_, ?_, ?_, ?_, ?_⟩ <;> first | (refine (hb7.cell ?_).trans ?_; (have h6 := hb6.size; simp at h6 ⊢; omega); assumption) | (refine (hb6.cell ?_).trans ?_; (simp; omega); assumption)))
    (first | ((go_at_call 7; refine (qto1.out _ (bw14.drew) HZ1.out).mono ?_; rintro e w15 ⟨cs6, F6, rfl, o6, nd6, hb6⟩; have za0 : w15.cell? ⟨(w.heap.size + 1), 0, none⟩ = some (.int .i64 xL1_0) := (hb6.cell (p := ⟨(w.heap.size + 1), 0, none⟩) (by simp; omega)).trans ya0; have za1 : w15.cell? ⟨(w.heap.size + 1), 1, none⟩ = some (.int .i64 xL1_1) := (hb6.cell (p := ⟨(w.heap.size + 1), 1, none⟩) (by simp; omega)).trans ya1; have za2 : w15.cell? ⟨(w.heap.size + 1), 2, none⟩ = some (.slice aA1_2 nA1_2 cA1_2) := (hb6.cell (p := ⟨(w.heap.size + 1), 2, none⟩) (by simp; omega)).trans ya2; have za3 : w15.cell? ⟨(w.heap.size + 1), 3, none⟩ = some (.int .i64 xL1_3) := (hb6.cell (p := ⟨(w.heap.size + 1), 3, none⟩) (by simp; omega)).trans ya3; have za4 : w15.cell? ⟨(w.heap.size + 1), 4, none⟩ = some (.int .i64 xL1_4) := (hb6.cell (p := ⟨(w.heap.size + 1), 4, none⟩) (by simp; omega)).trans ya4; have za5 : w15.cell? ⟨(w.heap.size + 1), 5, none⟩ = some (.bool xL1_5) := (hb6.cell (p := ⟨(w.heap.size + 1), 5, none⟩) (by simp; omega)).trans ya5; have zb0 : w15.cell? ⟨w10.heap.size, 0, none⟩ = some (.int .i64 xL1_0) := (hb6.cell (p := ⟨w10.heap.size, 0, none⟩) (by simp; omega)).trans yb0; have zb1 : w15.cell? ⟨w10.heap.size, 1, none⟩ = some (.int .i64 xL1_1) := (hb6.cell (p := ⟨w10.heap.size, 1, none⟩) (by simp; omega)).trans yb1; have zb2 : w15.cell? ⟨w10.heap.size, 2, none⟩ = some (.slice ax1_2 nx1_2 cx1_2) := (hb6.cell (p := ⟨w10.heap.size, 2, none⟩) (by simp; omega)).trans yb2; have zb3 : w15.cell? ⟨w10.heap.size, 3, none⟩ = some (.int .i64 xL1_3) := (hb6.cell (p := ⟨w10.heap.size, 3, none⟩) (by simp; omega)).trans yb3; have zb4 : w15.cell? ⟨w10.heap.size, 4, none⟩ = some (.int .i64 xL1_4) := (hb6.cell (p := ⟨w10.heap.size, 4, none⟩) (by simp; omega)).trans yb4; have zb5 : w15.cell? ⟨w10.heap.size, 5, none⟩ = some (.bool xL1_5) := (hb6.cell (p := ⟨w10.heap.size, 5, none⟩) (by simp; omega)).trans yb5)) | ((go_at_call 9; refine (qeq1.out _ _ cs6 (o_x1_w14.later ((Below.drew hbb).trans (hb6.mono (by simp)))).reads o6.reads HZ1.out).mono ?_; rintro e w16 ⟨rfl, hb7⟩)))
  have hbw16 : Below w14.heap.size w14 w16 := hbb.drew.trans ((hb6.trans (hb7.mono hb6.size)).mono hbb.drew.size)
  clear hb6 hb7 o6 nd6 hbb zlt zlt4 ya0 ya1 ya2 ya3 ya4 ya5 yb0 yb1 yb2 yb3 yb4 yb5 za0 za1 za2 za3 za4 za5 zb0 zb1 zb2 zb3 zb4 zb5
  have zw16 : w14.heap.size ≤ w16.heap.size := hbw16.size
  have bw16 := bw14.trans (hbw16.mono bw14.size)
  clear bw14
  have sw16 := sw14.trans (hbw16.mono sw14.size)
  clear sw14
  have o_x0_w16 := o_x0_w14.later hbw16
  clear o_x0_w14
  have o_x1_w16 := o_x1_w14.later hbw16
  clear o_x1_w14
  have i_a0_w16 : Hid (w16.heap[w.heap.size]? = some (.cells #[.int .i64 xL0_0, .int .i64 xL0_1, .slice aA0_2 nA0_2 cA0_2, .int .i64 xL0_3, .int .i64 xL0_4, .bool xL0_5] 24 (0, 0))) := (hbw16.block _ (by omega)).trans i_a0_w14.out
  clear i_a0_w14
  have i_a1_w16 : Hid (w16.heap[(w.heap.size + 1)]? = some (.cells #[.int .i64 xL1_0, .int .i64 xL1_1, .slice aA1_2 nA1_2 cA1_2, .int .i64 xL1_3, .int .i64 xL1_4, .bool xL1_5] 24 (0, 0))) := (hbw16.block _ (by omega)).trans i_a1_w14.out
  clear i_a1_w14
  have i_x0_w16 : Hid (w16.heap[w8.heap.size]? = some (.cells #[.int .i64 xL0_0, .int .i64 xL0_1, .slice ax0_2 nx0_2 cx0_2, .int .i64 xL0_3, .int .i64 xL0_4, .bool xL0_5] 26 (0, 0))) := (hbw16.block _ (by omega)).trans i_x0_w14.out
  clear i_x0_w14
  have i_x1_w16 : Hid (w16.heap[w10.heap.size]? = some (.cells #[.int .i64 xL1_0, .int .i64 xL1_1, .slice ax1_2 nx1_2 cx1_2, .int .i64 xL1_3, .int .i64 xL1_4, .bool xL1_5] 26 (0, 0))) := (hbw16.block _ (by omega)).trans i_x1_w14.out
  clear i_x1_w14
  clear hbw16
  go_wp2
  go_ret
  exact ⟨rfl, bw16⟩

end Go.Proofs.Ytmiggbdlhajkiaa
