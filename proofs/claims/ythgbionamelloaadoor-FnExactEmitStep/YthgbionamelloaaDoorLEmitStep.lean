/-
  The walk of the law FnExactEmitStep over the contracts of its two functions. By program (lawgen3.py).
-/
import Derived.Test.YthgbionamelloaaDoorMkGrid
import Derived.Test.YthgbionamelloaaDoorVB
import Derived.Test.YthgbionamelloaaDoorOwC
namespace Go.Proofs.YthgbionamelloaaDoor
open Go.RowKit
set_option linter.unusedVariables false

set_option maxRecDepth 100000 in
set_option maxHeartbeats 8000000 in
theorem emitStep_over (cs0 : List Value) (d0 : shGrid.D) (n1 : Int) (n2 : Int) (D0 : List Int) (V1 : Bool) (w : World) (hr0 : Reads shGrid w cs0 d0) (hD0 : D0.length ≤ 1048576) (hC0 : Sh.cnt (.sl .u8) D0 ≤ 1000000000)
    (hcd0 : shGrid.sz d0 ≤ 1048576 → shGrid.cntV d0 ≤ 1000000000)
    (hS : ∀ w' c0 G0, Own shGrid w' 0 c0 d0 G0 → shGrid.sz d0 ≤ 1048576 → Below w.heap.size w w' → Calls Tryd.prog 5 #[.agg c0.toArray, .int .i64 n1, .int .i64 n2] w' fun e w'' => ∃ o0, e = .returned (.tuple #[o0, .bool V1]) ∧ Reads (.sl .u8) w'' [o0] D0 ∧ Below w'.heap.size w' w'')
    (hI : ∀ w' c0 G0, Own shGrid w' 0 c0 d0 G0 → shGrid.sz d0 ≤ 1048576 → Below w.heap.size w w' → Calls Tryd.prog 7 #[.agg c0.toArray, .int .i64 n1, .int .i64 n2] w' fun e w'' => ∃ o0 F0, e = .returned (.tuple #[o0, .bool V1]) ∧ OwC w'' w'.heap.size o0 D0 F0 ∧ F0.Nodup ∧ Below w'.heap.size w' w'') :
    Calls Tryd.prog 3 #[.agg cs0.toArray, .int .i64 n1, .int .i64 n2] w fun e w' => e = .returned (.bool true) ∧ Below w.heap.size w w' := by
  have qsz0 : Hid (∀ w' left, Below w.heap.size w w' → 0 ≤ left → left ≤ 1048576 → Calls Tryd.prog 4 #[.agg cs0.toArray, .int .i64 left] w' fun e w'' => e = .returned (.int .i64 (szAns (shGrid.sz d0) left)) ∧ Below w'.heap.size w' w'') := fun w' left h' h1 h2 => szGrid_any cs0 d0 left w' (hr0.later h') h1 h2
  have qto0 : Hid (∀ w', Below w.heap.size w w' → shGrid.sz d0 ≤ 1048576 → Calls Tryd.prog 6 #[.agg cs0.toArray] w' fun e w'' => ∃ cs' F, e = .returned (.agg cs'.toArray) ∧ Own shGrid w'' w'.heap.size cs' d0 F ∧ F.Nodup ∧ Below w'.heap.size w' w'') := fun w' h' hs => toGrid_any cs0 d0 w' (hr0.later h') hs
  have qeq0 : Hid (∀ w' c1 c2, Reads shGrid w' c1 d0 → Reads shGrid w' c2 d0 → shGrid.sz d0 ≤ 1048576 → Calls Tryd.prog 9 #[.agg c1.toArray, .agg c2.toArray] w' fun e w'' => e = .returned (.bool true) ∧ Below w'.heap.size w' w'') := fun w' c1 c2 h1 h2 hs => eqGrid_any c1 c2 d0 w' h1 h2 hs
  have qS : Hid (∀ w' c0 G0, Own shGrid w' 0 c0 d0 G0 → shGrid.sz d0 ≤ 1048576 → Below w.heap.size w w' → Calls Tryd.prog 5 #[.agg c0.toArray, .int .i64 n1, .int .i64 n2] w' fun e w'' => ∃ o0, e = .returned (.tuple #[o0, .bool V1]) ∧ Reads (.sl .u8) w'' [o0] D0 ∧ Below w'.heap.size w' w'') := hS
  have qI : Hid (∀ w' c0 G0, Own shGrid w' 0 c0 d0 G0 → shGrid.sz d0 ≤ 1048576 → Below w.heap.size w w' → Calls Tryd.prog 7 #[.agg c0.toArray, .int .i64 n1, .int .i64 n2] w' fun e w'' => ∃ o0 F0, e = .returned (.tuple #[o0, .bool V1]) ∧ OwC w'' w'.heap.size o0 D0 F0 ∧ F0.Nodup ∧ Below w'.heap.size w' w'') := hI
  have qcd0 : Hid (shGrid.sz d0 ≤ 1048576 → shGrid.cntV d0 ≤ 1000000000) := hcd0
  have HD0 : Hid (_ ∧ _) := ⟨hD0, hC0⟩
  have hne1 : (V1 != V1) = false := by cases V1 <;> rfl
  obtain ⟨aA0_2, nA0_2, cA0_2, hcs0, _⟩ := open_Grid hr0
  obtain ⟨xL0_0, eL0_0⟩ : ∃ x : Int, x = d0.1 := ⟨_, rfl⟩
  obtain ⟨xL0_1, eL0_1⟩ : ∃ x : Int, x = d0.2.1 := ⟨_, rfl⟩
  obtain ⟨xL0_3, eL0_3⟩ : ∃ x : Int, x = d0.2.2.2.1 := ⟨_, rfl⟩
  obtain ⟨xL0_4, eL0_4⟩ : ∃ x : Int, x = d0.2.2.2.2.1 := ⟨_, rfl⟩
  obtain ⟨xL0_5, eL0_5⟩ : ∃ x : Bool, x = d0.2.2.2.2.2.1 := ⟨_, rfl⟩
  have HEL0 : Hid (xL0_0 = d0.1 ∧ xL0_1 = d0.2.1 ∧ xL0_3 = d0.2.2.2.1 ∧ xL0_4 = d0.2.2.2.2.1 ∧ xL0_5 = d0.2.2.2.2.2.1 ∧ True ∧ True) := ⟨eL0_0, eL0_1, eL0_3, eL0_4, eL0_5, trivial, trivial⟩
  rw [← eL0_0, ← eL0_1, ← eL0_3, ← eL0_4, ← eL0_5] at hcs0
  subst hcs0
  obtain ⟨K0, hK0⟩ : ∃ K, K = shGrid.sz d0 := ⟨_, rfl⟩
  rw [← hK0] at qsz0
  clear hS hI hr0 hcd0 hD0 hC0 eL0_0 eL0_1 eL0_3 eL0_4 eL0_5
  go_enter Tryd.func3, Tryd.ntmps3
  go_wp2_with fail
  obtain ⟨w1, hw1⟩ : ∃ W, W = w.alloc (.cells #[.int .i64 xL0_0, .int .i64 xL0_1, .slice aA0_2 nA0_2 cA0_2, .int .i64 xL0_3, .int .i64 xL0_4, .bool xL0_5] 24) := ⟨_, rfl⟩
  have hbw1 : Below w.heap.size w w1 := by rw [hw1]; exact (Below.refl _ _).alloc (Nat.le_refl _) _
  have i_a0_w1 : Hid (w1.heap[w.heap.size]? = some (.cells #[.int .i64 xL0_0, .int .i64 xL0_1, .slice aA0_2 nA0_2 cA0_2, .int .i64 xL0_3, .int .i64 xL0_4, .bool xL0_5] 24 (0, 0))) := by show _ = _; rw [hw1]; exact heap_alloc_new w _
  have zzw1 : w1.heap.size = w.heap.size + 1 := by rw [hw1]; simp
  rw [← hw1]
  clear hw1
  have zw1 : w.heap.size ≤ w1.heap.size := hbw1.size
  have bw1 := (Below.refl w.heap.size w).trans (hbw1.mono (Below.refl w.heap.size w).size)
  clear hbw1
  refine (qsz0.out _ (1048576) bw1 (by omega) (by omega)).mono ?_
  rintro e w2 ⟨rfl, hbw2⟩
  have zw2 : w1.heap.size ≤ w2.heap.size := hbw2.size
  have bw2 := bw1.trans (hbw2.mono bw1.size)
  clear bw1
  have i_a0_w2 : Hid (w2.heap[w.heap.size]? = some (.cells #[.int .i64 xL0_0, .int .i64 xL0_1, .slice aA0_2 nA0_2 cA0_2, .int .i64 xL0_3, .int .i64 xL0_4, .bool xL0_5] 24 (0, 0))) := (hbw2.block _ (by omega)).trans i_a0_w1.out
  clear i_a0_w1
  clear hbw2
  by_cases hk0 : ((K0 : Nat) : Int) ≤ 1048576
  case neg =>
    rw [szAns_no hk0]
    go_wp2
    go_ret
    exact ⟨rfl, bw2⟩
  rw [szAns_yes hk0]
  have hl0 : ¬ (1048576 - ((K0 : Nat) : Int) < 0) := by omega
  have HZ0 : Hid (shGrid.sz d0 ≤ 1048576) := by show shGrid.sz d0 ≤ 1048576; omega
  have hcc0 := qcd0.out HZ0.out
  have zl_a0 : w.heap.size < w2.heap.size := by omega
  have y_a0_0 : w2.cell? ⟨w.heap.size, 0, none⟩ = some (.int .i64 xL0_0) := box_cell i_a0_w2.out rfl
  have y_a0_1 : w2.cell? ⟨w.heap.size, 1, none⟩ = some (.int .i64 xL0_1) := box_cell i_a0_w2.out rfl
  have y_a0_2 : w2.cell? ⟨w.heap.size, 2, none⟩ = some (.slice aA0_2 nA0_2 cA0_2) := box_cell i_a0_w2.out rfl
  have y_a0_3 : w2.cell? ⟨w.heap.size, 3, none⟩ = some (.int .i64 xL0_3) := box_cell i_a0_w2.out rfl
  have y_a0_4 : w2.cell? ⟨w.heap.size, 4, none⟩ = some (.int .i64 xL0_4) := box_cell i_a0_w2.out rfl
  have y_a0_5 : w2.cell? ⟨w.heap.size, 5, none⟩ = some (.bool xL0_5) := box_cell i_a0_w2.out rfl
  go_wp2_with fail
  clear zl_a0 y_a0_0 y_a0_1 y_a0_2 y_a0_3 y_a0_4 y_a0_5
  refine (qto0.out _ bw2 HZ0.out).mono ?_
  rintro e w3 ⟨cs_y0, F_y0, he_y0, p_y0, nd_y0, hbw3⟩
  have zw3 : w2.heap.size ≤ w3.heap.size := hbw3.size
  have bw3 := bw2.trans (hbw3.mono bw2.size)
  clear bw2
  have i_a0_w3 : Hid (w3.heap[w.heap.size]? = some (.cells #[.int .i64 xL0_0, .int .i64 xL0_1, .slice aA0_2 nA0_2 cA0_2, .int .i64 xL0_3, .int .i64 xL0_4, .bool xL0_5] 24 (0, 0))) := (hbw3.block _ (by omega)).trans i_a0_w2.out
  clear i_a0_w2
  clear hbw3
  have lt_y0 : Hid (∀ g ∈ F_y0, w2.heap.size ≤ g ∧ g < w3.heap.size) := p_y0.lt
  obtain ⟨ay0_2, ny0_2, cy0_2, hq_y0, _⟩ := open_Grid p_y0.reads
  rw [← HEL0.out.1, ← HEL0.out.2.1, ← HEL0.out.2.2.1, ← HEL0.out.2.2.2.1, ← HEL0.out.2.2.2.2.1] at hq_y0
  subst hq_y0
  subst he_y0
  go_wp2_with fail
  refine (qS.out _ _ _ (p_y0.base (Nat.zero_le _)) HZ0.out bw3).mono ?_
  rintro e w4 ⟨W0, rfl, p_W0, hbw4⟩
  have RW0 : Hid (Reads (.sl .u8) w4 [W0] D0) := p_W0
  have zw4 : w3.heap.size ≤ w4.heap.size := hbw4.size
  have bw4 := bw3.trans (hbw4.mono bw3.size)
  clear bw3
  have o_y0_w4 := p_y0.later hbw4
  clear p_y0
  have i_a0_w4 : Hid (w4.heap[w.heap.size]? = some (.cells #[.int .i64 xL0_0, .int .i64 xL0_1, .slice aA0_2 nA0_2 cA0_2, .int .i64 xL0_3, .int .i64 xL0_4, .bool xL0_5] 24 (0, 0))) := (hbw4.block _ (by omega)).trans i_a0_w3.out
  clear i_a0_w3
  clear hbw4
  have sw4 : Below w4.heap.size w4 w4 := Below.refl _ _
  clear p_W0
  clear o_y0_w4 nd_y0 lt_y0
  have zl_a0 : w.heap.size < w4.heap.size := by omega
  have y_a0_0 : w4.cell? ⟨w.heap.size, 0, none⟩ = some (.int .i64 xL0_0) := box_cell i_a0_w4.out rfl
  have y_a0_1 : w4.cell? ⟨w.heap.size, 1, none⟩ = some (.int .i64 xL0_1) := box_cell i_a0_w4.out rfl
  have y_a0_2 : w4.cell? ⟨w.heap.size, 2, none⟩ = some (.slice aA0_2 nA0_2 cA0_2) := box_cell i_a0_w4.out rfl
  have y_a0_3 : w4.cell? ⟨w.heap.size, 3, none⟩ = some (.int .i64 xL0_3) := box_cell i_a0_w4.out rfl
  have y_a0_4 : w4.cell? ⟨w.heap.size, 4, none⟩ = some (.int .i64 xL0_4) := box_cell i_a0_w4.out rfl
  have y_a0_5 : w4.cell? ⟨w.heap.size, 5, none⟩ = some (.bool xL0_5) := box_cell i_a0_w4.out rfl
  go_wp2_with fail
  clear zl_a0 y_a0_0 y_a0_1 y_a0_2 y_a0_3 y_a0_4 y_a0_5
  refine (qto0.out _ bw4 HZ0.out).mono ?_
  rintro e w5 ⟨cs_x0, F_x0, he_x0, p_x0, nd_x0, hbw5⟩
  have zw5 : w4.heap.size ≤ w5.heap.size := hbw5.size
  have bw5 := bw4.trans (hbw5.mono bw4.size)
  clear bw4
  have sw5 := sw4.trans (hbw5.mono sw4.size)
  clear sw4
  have i_a0_w5 : Hid (w5.heap[w.heap.size]? = some (.cells #[.int .i64 xL0_0, .int .i64 xL0_1, .slice aA0_2 nA0_2 cA0_2, .int .i64 xL0_3, .int .i64 xL0_4, .bool xL0_5] 24 (0, 0))) := (hbw5.block _ (by omega)).trans i_a0_w4.out
  clear i_a0_w4
  clear hbw5
  have lt_x0 : Hid (∀ g ∈ F_x0, w4.heap.size ≤ g ∧ g < w5.heap.size) := p_x0.lt
  obtain ⟨ax0_2, nx0_2, cx0_2, hq_x0, _⟩ := open_Grid p_x0.reads
  rw [← HEL0.out.1, ← HEL0.out.2.1, ← HEL0.out.2.2.1, ← HEL0.out.2.2.2.1, ← HEL0.out.2.2.2.2.1] at hq_x0
  subst hq_x0
  subst he_x0
  go_wp2_with fail
  obtain ⟨w6, hw6⟩ : ∃ W, W = w5.alloc (.cells #[.int .i64 xL0_0, .int .i64 xL0_1, .slice ax0_2 nx0_2 cx0_2, .int .i64 xL0_3, .int .i64 xL0_4, .bool xL0_5] 29) := ⟨_, rfl⟩
  have hbw6 : Below w5.heap.size w5 w6 := by rw [hw6]; exact (Below.refl _ _).alloc (Nat.le_refl _) _
  have i_x0_w6 : Hid (w6.heap[w5.heap.size]? = some (.cells #[.int .i64 xL0_0, .int .i64 xL0_1, .slice ax0_2 nx0_2 cx0_2, .int .i64 xL0_3, .int .i64 xL0_4, .bool xL0_5] 29 (0, 0))) := by show _ = _; rw [hw6]; exact heap_alloc_new w5 _
  have zzw6 : w6.heap.size = w5.heap.size + 1 := by rw [hw6]; simp
  rw [← hw6]
  clear hw6
  have zw6 : w5.heap.size ≤ w6.heap.size := hbw6.size
  have bw6 := bw5.trans (hbw6.mono bw5.size)
  clear bw5
  have sw6 := sw5.trans (hbw6.mono sw5.size)
  clear sw5
  have o_x0_w6 := p_x0.later hbw6
  clear p_x0
  have i_a0_w6 : Hid (w6.heap[w.heap.size]? = some (.cells #[.int .i64 xL0_0, .int .i64 xL0_1, .slice aA0_2 nA0_2 cA0_2, .int .i64 xL0_3, .int .i64 xL0_4, .bool xL0_5] 24 (0, 0))) := (hbw6.block _ (by omega)).trans i_a0_w5.out
  clear i_a0_w5
  clear hbw6
  refine (qI.out _ _ _ (o_x0_w6.base (Nat.zero_le _)) HZ0.out bw6).mono ?_
  rintro e w7 ⟨g0, F_g0, rfl, p_g0, nd_g0, hbw7⟩
  have zw7 : w6.heap.size ≤ w7.heap.size := hbw7.size
  have bw7 := bw6.trans (hbw7.mono bw6.size)
  clear bw6
  have sw7 := sw6.trans (hbw7.mono sw6.size)
  clear sw6
  have o_x0_w7 := o_x0_w6.later hbw7
  clear o_x0_w6
  have i_a0_w7 : Hid (w7.heap[w.heap.size]? = some (.cells #[.int .i64 xL0_0, .int .i64 xL0_1, .slice aA0_2 nA0_2 cA0_2, .int .i64 xL0_3, .int .i64 xL0_4, .bool xL0_5] 24 (0, 0))) := (hbw7.block _ (by omega)).trans i_a0_w6.out
  clear i_a0_w6
  have i_x0_w7 : Hid (w7.heap[w5.heap.size]? = some (.cells #[.int .i64 xL0_0, .int .i64 xL0_1, .slice ax0_2 nx0_2 cx0_2, .int .i64 xL0_3, .int .i64 xL0_4, .bool xL0_5] 29 (0, 0))) := (hbw7.block _ (by omega)).trans i_x0_w6.out
  clear i_x0_w6
  clear hbw7
  have lt_g0 : Hid (∀ g ∈ F_g0, w6.heap.size ≤ g ∧ g < w7.heap.size) := p_g0.lt
  go_wp2_with fail
  refine (eqByteS_v _ _ D0 _ p_g0.reads (RW0.out.later sw7) (by have := HD0.out.1; omega)).mono ?_
  rintro e w8 ⟨rfl, hbw8⟩
  have zw8 : w7.heap.size ≤ w8.heap.size := hbw8.size
  have bw8 := bw7.trans (hbw8.mono bw7.size)
  clear bw7
  have sw8 := sw7.trans (hbw8.mono sw7.size)
  clear sw7
  have o_x0_w8 := o_x0_w7.later hbw8
  clear o_x0_w7
  have o_g0_w8 := p_g0.later hbw8
  clear p_g0
  have i_a0_w8 : Hid (w8.heap[w.heap.size]? = some (.cells #[.int .i64 xL0_0, .int .i64 xL0_1, .slice aA0_2 nA0_2 cA0_2, .int .i64 xL0_3, .int .i64 xL0_4, .bool xL0_5] 24 (0, 0))) := (hbw8.block _ (by omega)).trans i_a0_w7.out
  clear i_a0_w7
  have i_x0_w8 : Hid (w8.heap[w5.heap.size]? = some (.cells #[.int .i64 xL0_0, .int .i64 xL0_1, .slice ax0_2 nx0_2 cx0_2, .int .i64 xL0_3, .int .i64 xL0_4, .bool xL0_5] 29 (0, 0))) := (hbw8.block _ (by omega)).trans i_x0_w7.out
  clear i_x0_w7
  clear hbw8
  have zlt : w.heap.size < w8.heap.size := by omega
  have zlt4 : w5.heap.size < w8.heap.size := by omega
  have hbb : Below w8.heap.size w8 w8 := Below.refl _ _
  have ya0 : w8.cell? ⟨w.heap.size, 0, none⟩ = some (.int .i64 xL0_0) := box_cell i_a0_w8.out rfl
  have ya1 : w8.cell? ⟨w.heap.size, 1, none⟩ = some (.int .i64 xL0_1) := box_cell i_a0_w8.out rfl
  have ya2 : w8.cell? ⟨w.heap.size, 2, none⟩ = some (.slice aA0_2 nA0_2 cA0_2) := box_cell i_a0_w8.out rfl
  have ya3 : w8.cell? ⟨w.heap.size, 3, none⟩ = some (.int .i64 xL0_3) := box_cell i_a0_w8.out rfl
  have ya4 : w8.cell? ⟨w.heap.size, 4, none⟩ = some (.int .i64 xL0_4) := box_cell i_a0_w8.out rfl
  have ya5 : w8.cell? ⟨w.heap.size, 5, none⟩ = some (.bool xL0_5) := box_cell i_a0_w8.out rfl
  have yb0 : w8.cell? ⟨w5.heap.size, 0, none⟩ = some (.int .i64 xL0_0) := box_cell i_x0_w8.out rfl
  have yb1 : w8.cell? ⟨w5.heap.size, 1, none⟩ = some (.int .i64 xL0_1) := box_cell i_x0_w8.out rfl
  have yb2 : w8.cell? ⟨w5.heap.size, 2, none⟩ = some (.slice ax0_2 nx0_2 cx0_2) := box_cell i_x0_w8.out rfl
  have yb3 : w8.cell? ⟨w5.heap.size, 3, none⟩ = some (.int .i64 xL0_3) := box_cell i_x0_w8.out rfl
  have yb4 : w8.cell? ⟨w5.heap.size, 4, none⟩ = some (.int .i64 xL0_4) := box_cell i_x0_w8.out rfl
  have yb5 : w8.cell? ⟨w5.heap.size, 5, none⟩ = some (.bool xL0_5) := box_cell i_x0_w8.out rfl
  go_wp2_with fail
  go_region_held (fun w' => w'.cell? ⟨w.heap.size, 0, none⟩ = some (.int .i64 xL0_0) ∧ w'.cell? ⟨w.heap.size, 1, none⟩ = some (.int .i64 xL0_1) ∧ w'.cell? ⟨w.heap.size, 2, none⟩ = some (.slice aA0_2 nA0_2 cA0_2) ∧ w'.cell? ⟨w.heap.size, 3, none⟩ = some (.int .i64 xL0_3) ∧ w'.cell? ⟨w.heap.size, 4, none⟩ = some (.int .i64 xL0_4) ∧ w'.cell? ⟨w.heap.size, 5, none⟩ = some (.bool xL0_5) ∧ w'.cell? ⟨w5.heap.size, 0, none⟩ = some (.int .i64 xL0_0) ∧ w'.cell? ⟨w5.heap.size, 1, none⟩ = some (.int .i64 xL0_1) ∧ w'.cell? ⟨w5.heap.size, 2, none⟩ = some (.slice ax0_2 nx0_2 cx0_2) ∧ w'.cell? ⟨w5.heap.size, 3, none⟩ = some (.int .i64 xL0_3) ∧ w'.cell? ⟨w5.heap.size, 4, none⟩ = some (.int .i64 xL0_4) ∧ w'.cell? ⟨w5.heap.size, 5, none⟩ = some (.bool xL0_5))
    (first | go_keep | (refine ⟨?_, ?_, ?_, ?_, ?_, ?_, ?_, ?_, ?_, ?_, ?_, ?_⟩ <;> first | (refine (hb7.cell ?_).trans ?_; (have h6 := hb6.size; simp at h6 ⊢; omega); assumption) | (refine (hb6.cell ?_).trans ?_; (simp; omega); assumption)))
    (first | ((go_at_call 6; refine (qto0.out _ (bw8.drew) HZ0.out).mono ?_; rintro e w9 ⟨cs6, F6, rfl, o6, nd6, hb6⟩; have za0 : w9.cell? ⟨w.heap.size, 0, none⟩ = some (.int .i64 xL0_0) := (hb6.cell (p := ⟨w.heap.size, 0, none⟩) (by simp; omega)).trans ya0; have za1 : w9.cell? ⟨w.heap.size, 1, none⟩ = some (.int .i64 xL0_1) := (hb6.cell (p := ⟨w.heap.size, 1, none⟩) (by simp; omega)).trans ya1; have za2 : w9.cell? ⟨w.heap.size, 2, none⟩ = some (.slice aA0_2 nA0_2 cA0_2) := (hb6.cell (p := ⟨w.heap.size, 2, none⟩) (by simp; omega)).trans ya2; have za3 : w9.cell? ⟨w.heap.size, 3, none⟩ = some (.int .i64 xL0_3) := (hb6.cell (p := ⟨w.heap.size, 3, none⟩) (by simp; omega)).trans ya3; have za4 : w9.cell? ⟨w.heap.size, 4, none⟩ = some (.int .i64 xL0_4) := (hb6.cell (p := ⟨w.heap.size, 4, none⟩) (by simp; omega)).trans ya4; have za5 : w9.cell? ⟨w.heap.size, 5, none⟩ = some (.bool xL0_5) := (hb6.cell (p := ⟨w.heap.size, 5, none⟩) (by simp; omega)).trans ya5; have zb0 : w9.cell? ⟨w5.heap.size, 0, none⟩ = some (.int .i64 xL0_0) := (hb6.cell (p := ⟨w5.heap.size, 0, none⟩) (by simp; omega)).trans yb0; have zb1 : w9.cell? ⟨w5.heap.size, 1, none⟩ = some (.int .i64 xL0_1) := (hb6.cell (p := ⟨w5.heap.size, 1, none⟩) (by simp; omega)).trans yb1; have zb2 : w9.cell? ⟨w5.heap.size, 2, none⟩ = some (.slice ax0_2 nx0_2 cx0_2) := (hb6.cell (p := ⟨w5.heap.size, 2, none⟩) (by simp; omega)).trans yb2; have zb3 : w9.cell? ⟨w5.heap.size, 3, none⟩ = some (.int .i64 xL0_3) := (hb6.cell (p := ⟨w5.heap.size, 3, none⟩) (by simp; omega)).trans yb3; have zb4 : w9.cell? ⟨w5.heap.size, 4, none⟩ = some (.int .i64 xL0_4) := (hb6.cell (p := ⟨w5.heap.size, 4, none⟩) (by simp; omega)).trans yb4; have zb5 : w9.cell? ⟨w5.heap.size, 5, none⟩ = some (.bool xL0_5) := (hb6.cell (p := ⟨w5.heap.size, 5, none⟩) (by simp; omega)).trans yb5)) | ((go_at_call 9; refine (qeq0.out _ _ cs6 (o_x0_w8.later ((Below.drew hbb).trans (hb6.mono (by simp)))).reads o6.reads HZ0.out).mono ?_; rintro e w10 ⟨rfl, hb7⟩)))
  have hbw10 : Below w8.heap.size w8 w10 := hbb.drew.trans ((hb6.trans (hb7.mono hb6.size)).mono hbb.drew.size)
  clear hb6 hb7 o6 nd6 hbb zlt zlt4 ya0 ya1 ya2 ya3 ya4 ya5 yb0 yb1 yb2 yb3 yb4 yb5 za0 za1 za2 za3 za4 za5 zb0 zb1 zb2 zb3 zb4 zb5
  have zw10 : w8.heap.size ≤ w10.heap.size := hbw10.size
  have bw10 := bw8.trans (hbw10.mono bw8.size)
  clear bw8
  have sw10 := sw8.trans (hbw10.mono sw8.size)
  clear sw8
  have o_x0_w10 := o_x0_w8.later hbw10
  clear o_x0_w8
  have o_g0_w10 := o_g0_w8.later hbw10
  clear o_g0_w8
  have i_a0_w10 : Hid (w10.heap[w.heap.size]? = some (.cells #[.int .i64 xL0_0, .int .i64 xL0_1, .slice aA0_2 nA0_2 cA0_2, .int .i64 xL0_3, .int .i64 xL0_4, .bool xL0_5] 24 (0, 0))) := (hbw10.block _ (by omega)).trans i_a0_w8.out
  clear i_a0_w8
  have i_x0_w10 : Hid (w10.heap[w5.heap.size]? = some (.cells #[.int .i64 xL0_0, .int .i64 xL0_1, .slice ax0_2 nx0_2 cx0_2, .int .i64 xL0_3, .int .i64 xL0_4, .bool xL0_5] 29 (0, 0))) := (hbw10.block _ (by omega)).trans i_x0_w8.out
  clear i_x0_w8
  clear hbw10
  have zl_x0 : w5.heap.size < w10.heap.size := by omega
  have y_x0_0 : w10.cell? ⟨w5.heap.size, 0, none⟩ = some (.int .i64 xL0_0) := box_cell i_x0_w10.out rfl
  have y_x0_1 : w10.cell? ⟨w5.heap.size, 1, none⟩ = some (.int .i64 xL0_1) := box_cell i_x0_w10.out rfl
  have y_x0_2 : w10.cell? ⟨w5.heap.size, 2, none⟩ = some (.slice ax0_2 nx0_2 cx0_2) := box_cell i_x0_w10.out rfl
  have y_x0_3 : w10.cell? ⟨w5.heap.size, 3, none⟩ = some (.int .i64 xL0_3) := box_cell i_x0_w10.out rfl
  have y_x0_4 : w10.cell? ⟨w5.heap.size, 4, none⟩ = some (.int .i64 xL0_4) := box_cell i_x0_w10.out rfl
  have y_x0_5 : w10.cell? ⟨w5.heap.size, 5, none⟩ = some (.bool xL0_5) := box_cell i_x0_w10.out rfl
  go_wp2_with fail
  clear zl_x0 y_x0_0 y_x0_1 y_x0_2 y_x0_3 y_x0_4 y_x0_5
  refine (markGrid_own _ _ (1) d0 F_x0 _ o_x0_w10 nd_x0 (by omega) (by omega)).mono ?_
  rintro e w11 ⟨rfl, p2_x0, htw11⟩
  have zw11 : w10.heap.size ≤ w11.heap.size := htw11.size
  have bw11 := htw11.below bw10 bw10.size (fun g hg => by have h9 := (lt_x0.out g hg).1; omega)
  clear bw10
  have sw11 := htw11.below sw10 sw10.size (fun g hg => by have h9 := (lt_x0.out g hg).1; omega)
  clear sw10
  clear o_x0_w10
  have o_g0_w11 := htw11.ownC o_g0_w10 (fun g hg hf => by have h8 := lt_g0.out g hg; have h9 := lt_x0.out g hf; omega)
  clear o_g0_w10
  have i_a0_w11 : Hid (w11.heap[w.heap.size]? = some (.cells #[.int .i64 xL0_0, .int .i64 xL0_1, .slice aA0_2 nA0_2 cA0_2, .int .i64 xL0_3, .int .i64 xL0_4, .bool xL0_5] 24 (0, 0))) := (htw11.block _ (by omega) (fun hm => by have h9 := lt_x0.out _ hm; omega)).trans i_a0_w10.out
  clear i_a0_w10
  have i_x0_w11 : Hid (w11.heap[w5.heap.size]? = some (.cells #[.int .i64 xL0_0, .int .i64 xL0_1, .slice ax0_2 nx0_2 cx0_2, .int .i64 xL0_3, .int .i64 xL0_4, .bool xL0_5] 29 (0, 0))) := (htw11.block _ (by omega) (fun hm => by have h9 := lt_x0.out _ hm; omega)).trans i_x0_w10.out
  clear i_x0_w10
  clear htw11
  have hkk : ¬ (((1 + shGrid.cntV d0 : Nat) : Int) < 0) := by omega
  clear p2_x0 nd_x0 lt_x0
  go_wp2_with fail
  refine (eqByteS_v _ _ D0 _ o_g0_w11.reads (RW0.out.later sw11) (by have := HD0.out.1; omega)).mono ?_
  rintro e w12 ⟨rfl, hbw12⟩
  have zw12 : w11.heap.size ≤ w12.heap.size := hbw12.size
  have bw12 := bw11.trans (hbw12.mono bw11.size)
  clear bw11
  have sw12 := sw11.trans (hbw12.mono sw11.size)
  clear sw11
  have o_g0_w12 := o_g0_w11.later hbw12
  clear o_g0_w11
  have i_a0_w12 : Hid (w12.heap[w.heap.size]? = some (.cells #[.int .i64 xL0_0, .int .i64 xL0_1, .slice aA0_2 nA0_2 cA0_2, .int .i64 xL0_3, .int .i64 xL0_4, .bool xL0_5] 24 (0, 0))) := (hbw12.block _ (by omega)).trans i_a0_w11.out
  clear i_a0_w11
  clear hbw12
  clear hkk
  have hcj0 := HD0.out.2
  go_wp2_with fail
  refine (markByteS_c _ _ _ (1) D0 F_g0 _ (by first | rfl | omega | (simp; done)) o_g0_w12 nd_g0 (by omega) (by omega)).mono ?_
  rintro e w13 ⟨rfl, p2_g0, htw13⟩
  have zw13 : w12.heap.size ≤ w13.heap.size := htw13.size
  have bw13 := htw13.below bw12 bw12.size (fun g hg => by have h9 := (lt_g0.out g hg).1; omega)
  clear bw12
  have sw13 := htw13.below sw12 sw12.size (fun g hg => by have h9 := (lt_g0.out g hg).1; omega)
  clear sw12
  clear o_g0_w12
  have i_a0_w13 : Hid (w13.heap[w.heap.size]? = some (.cells #[.int .i64 xL0_0, .int .i64 xL0_1, .slice aA0_2 nA0_2 cA0_2, .int .i64 xL0_3, .int .i64 xL0_4, .bool xL0_5] 24 (0, 0))) := (htw13.block _ (by omega) (fun hm => by have h9 := lt_g0.out _ hm; omega)).trans i_a0_w12.out
  clear i_a0_w12
  clear htw13
  have hqq : ¬ (((1 + Sh.cnt (.sl .u8) D0 : Nat) : Int) < 0) := by omega
  have hmm : ((((1 + Sh.cnt (.sl .u8) D0 : Nat) : Int)) != (((1 + Sh.cnt (.sl .u8) D0 : Nat) : Int))) = false := by simp
  go_wp2_with fail
  refine (heldByteS_c _ _ _ (1) D0 F_g0 _ (by first | rfl | omega | (simp; done)) p2_g0 nd_g0 (by omega) (by omega)).mono ?_
  rintro e w14 ⟨rfl, hbw14⟩
  have zw14 : w13.heap.size ≤ w14.heap.size := hbw14.size
  have bw14 := bw13.trans (hbw14.mono bw13.size)
  clear bw13
  have sw14 := sw13.trans (hbw14.mono sw13.size)
  clear sw13
  have o_g0_w14 := p2_g0.later hbw14
  clear p2_g0
  have i_a0_w14 : Hid (w14.heap[w.heap.size]? = some (.cells #[.int .i64 xL0_0, .int .i64 xL0_1, .slice aA0_2 nA0_2 cA0_2, .int .i64 xL0_3, .int .i64 xL0_4, .bool xL0_5] 24 (0, 0))) := (hbw14.block _ (by omega)).trans i_a0_w13.out
  clear i_a0_w13
  clear hbw14
  have zl_a0 : w.heap.size < w14.heap.size := by omega
  have y_a0_0 : w14.cell? ⟨w.heap.size, 0, none⟩ = some (.int .i64 xL0_0) := box_cell i_a0_w14.out rfl
  have y_a0_1 : w14.cell? ⟨w.heap.size, 1, none⟩ = some (.int .i64 xL0_1) := box_cell i_a0_w14.out rfl
  have y_a0_2 : w14.cell? ⟨w.heap.size, 2, none⟩ = some (.slice aA0_2 nA0_2 cA0_2) := box_cell i_a0_w14.out rfl
  have y_a0_3 : w14.cell? ⟨w.heap.size, 3, none⟩ = some (.int .i64 xL0_3) := box_cell i_a0_w14.out rfl
  have y_a0_4 : w14.cell? ⟨w.heap.size, 4, none⟩ = some (.int .i64 xL0_4) := box_cell i_a0_w14.out rfl
  have y_a0_5 : w14.cell? ⟨w.heap.size, 5, none⟩ = some (.bool xL0_5) := box_cell i_a0_w14.out rfl
  go_wp2_with fail
  clear zl_a0 y_a0_0 y_a0_1 y_a0_2 y_a0_3 y_a0_4 y_a0_5
  refine (qto0.out _ bw14 HZ0.out).mono ?_
  rintro e w15 ⟨cs_h0, F_h0, he_h0, p_h0, nd_h0, hbw15⟩
  have zw15 : w14.heap.size ≤ w15.heap.size := hbw15.size
  have bw15 := bw14.trans (hbw15.mono bw14.size)
  clear bw14
  have sw15 := sw14.trans (hbw15.mono sw14.size)
  clear sw14
  have o_g0_w15 := o_g0_w14.later hbw15
  clear o_g0_w14
  have i_a0_w15 : Hid (w15.heap[w.heap.size]? = some (.cells #[.int .i64 xL0_0, .int .i64 xL0_1, .slice aA0_2 nA0_2 cA0_2, .int .i64 xL0_3, .int .i64 xL0_4, .bool xL0_5] 24 (0, 0))) := (hbw15.block _ (by omega)).trans i_a0_w14.out
  clear i_a0_w14
  clear hbw15
  have lt_h0 : Hid (∀ g ∈ F_h0, w14.heap.size ≤ g ∧ g < w15.heap.size) := p_h0.lt
  obtain ⟨ah0_2, nh0_2, ch0_2, hq_h0, _⟩ := open_Grid p_h0.reads
  rw [← HEL0.out.1, ← HEL0.out.2.1, ← HEL0.out.2.2.1, ← HEL0.out.2.2.2.1, ← HEL0.out.2.2.2.2.1] at hq_h0
  subst hq_h0
  subst he_h0
  go_wp2_with fail
  refine (qI.out _ _ _ (p_h0.base (Nat.zero_le _)) HZ0.out bw15).mono ?_
  rintro e w16 ⟨k0, F_k0, rfl, p_k0, nd_k0, hbw16⟩
  have zw16 : w15.heap.size ≤ w16.heap.size := hbw16.size
  have bw16 := bw15.trans (hbw16.mono bw15.size)
  clear bw15
  have sw16 := sw15.trans (hbw16.mono sw15.size)
  clear sw15
  have o_g0_w16 := o_g0_w15.later hbw16
  clear o_g0_w15
  have o_h0_w16 := p_h0.later hbw16
  clear p_h0
  have i_a0_w16 : Hid (w16.heap[w.heap.size]? = some (.cells #[.int .i64 xL0_0, .int .i64 xL0_1, .slice aA0_2 nA0_2 cA0_2, .int .i64 xL0_3, .int .i64 xL0_4, .bool xL0_5] 24 (0, 0))) := (hbw16.block _ (by omega)).trans i_a0_w15.out
  clear i_a0_w15
  clear hbw16
  have lt_k0 : Hid (∀ g ∈ F_k0, w15.heap.size ≤ g ∧ g < w16.heap.size) := p_k0.lt
  go_wp2_with fail
  refine (eqByteS_v _ _ D0 _ p_k0.reads (RW0.out.later sw16) (by have := HD0.out.1; omega)).mono ?_
  rintro e w17 ⟨rfl, hbw17⟩
  have zw17 : w16.heap.size ≤ w17.heap.size := hbw17.size
  have bw17 := bw16.trans (hbw17.mono bw16.size)
  clear bw16
  have sw17 := sw16.trans (hbw17.mono sw16.size)
  clear sw16
  have o_g0_w17 := o_g0_w16.later hbw17
  clear o_g0_w16
  have o_h0_w17 := o_h0_w16.later hbw17
  clear o_h0_w16
  have o_k0_w17 := p_k0.later hbw17
  clear p_k0
  have i_a0_w17 : Hid (w17.heap[w.heap.size]? = some (.cells #[.int .i64 xL0_0, .int .i64 xL0_1, .slice aA0_2 nA0_2 cA0_2, .int .i64 xL0_3, .int .i64 xL0_4, .bool xL0_5] 24 (0, 0))) := (hbw17.block _ (by omega)).trans i_a0_w16.out
  clear i_a0_w16
  clear hbw17
  go_wp2_with fail
  refine (heldByteS_c _ _ _ (1) D0 F_g0 _ (by first | rfl | omega | (simp; done)) o_g0_w17 nd_g0 (by omega) (by omega)).mono ?_
  rintro e w18 ⟨rfl, hbw18⟩
  have zw18 : w17.heap.size ≤ w18.heap.size := hbw18.size
  have bw18 := bw17.trans (hbw18.mono bw17.size)
  clear bw17
  have sw18 := sw17.trans (hbw18.mono sw17.size)
  clear sw17
  have o_g0_w18 := o_g0_w17.later hbw18
  clear o_g0_w17
  have o_h0_w18 := o_h0_w17.later hbw18
  clear o_h0_w17
  have o_k0_w18 := o_k0_w17.later hbw18
  clear o_k0_w17
  have i_a0_w18 : Hid (w18.heap[w.heap.size]? = some (.cells #[.int .i64 xL0_0, .int .i64 xL0_1, .slice aA0_2 nA0_2 cA0_2, .int .i64 xL0_3, .int .i64 xL0_4, .bool xL0_5] 24 (0, 0))) := (hbw18.block _ (by omega)).trans i_a0_w17.out
  clear i_a0_w17
  clear hbw18
  go_wp2
  go_ret
  exact ⟨rfl, bw18⟩

end Go.Proofs.YthgbionamelloaaDoor
