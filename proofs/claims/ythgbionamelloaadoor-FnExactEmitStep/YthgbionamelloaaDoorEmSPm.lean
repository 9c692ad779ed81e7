/-
  Moving the cursor: EmitStep of the program, within the row. By program (emspgen.py).
-/
import Derived.Test.YthgbionamelloaaDoorEmSP
namespace Go.Proofs.YthgbionamelloaaDoor
open Go.RowKit
set_option linter.unusedVariables false
set_option linter.unusedSimpArgs false
set_option maxRecDepth 100000

set_option maxHeartbeats 4000000 in
theorem implStep_move (x0 x1 x3 x4 : Int) (a : Option Addr) (n c : Nat) (zs : List Int) (x : Int) (w : World) (htab : Lib.TabIs Tryd.prog w "internal/strconv.uint64pow10" .u64 Lib.pow10Tab) (hr : Reads (.sl .int) w [.slice a n c] zs) (hok : stepOk (x0, x1, zs, x3, x4, false, ()) x x4 = true) (hx : 0 ≤ x ∧ x < 200 ∧ 0 ≤ x4 ∧ x4 < 200) (hX : 0 ≤ x3 ∧ x3 < 200) (hxx : x ≠ x3) :
    Calls Tryd.prog 7 #[.agg #[.int .i64 x0, .int .i64 x1, .slice a n c, .int .i64 x3, .int .i64 x4, .bool false], .int .i64 x, .int .i64 x4] w fun e w' => ∃ v, e = .returned (.tuple #[v, .bool (stepOk (x0, x1, zs, x3, x4, false, ()) x x4)]) ∧ Txt w' w.heap.size v (stepA (x0, x1, zs, x3, x4, false, ()) x x4) ∧ Below w.heap.size w w' := by
  have ES : Hid (stepOk (x0, x1, zs, x3, x4, false, ()) x x4 = true) := hok
  have EA0 := stepA_yes hok
  obtain ⟨D, hD⟩ : ∃ D, D = x - x3 := ⟨_, rfl⟩
  obtain ⟨M, hM⟩ : ∃ M, M = -D := ⟨_, rfl⟩
  have EA : Hid (stepA (x0, x1, zs, x3, x4, false, ()) x x4 = pickL [edgeZ x, backZ M, colZ D fC, colZ M fD, gotoZ x x4]) := by
    show _ = _
    rw [EA0, hM, hD, five_pick hx hX hxx]
  have dy : (x4 != x4) = false := by simp
  have dx : (x == x3) = false := by simpa using hxx
  have wd : IntKind.i64.wrap (x - x3) = D := by rw [hD]; simp [IntKind.wrap, IntKind.bits, IntKind.signed]; omega
  have wm : IntKind.i64.wrap (-D) = M := by rw [hM, hD]; simp [IntKind.wrap, IntKind.bits, IntKind.signed]; omega
  have HDM : Hid (D ≤ 1000 ∧ M ≤ 1000) := ⟨by omega, by omega⟩
  clear hD hM
  have hgp : gokB (x0, x1, zs, x3, x4, false, ()) = true ∧ placeB x0 x1 x x4 = true := by unfold stepOk at hok; simpa using hok
  have HG : Hid (gokB (x0, x1, zs, x3, x4, false, ()) = true) := hgp.1
  have HP : Hid (placeB x0 x1 x x4 = true) := hgp.2
  obtain ⟨W0, hW0⟩ : ∃ W0, W0 = w.alloc (.cells #[.int .i64 x0, .int .i64 x1, .slice a n c, .int .i64 x3, .int .i64 x4, .bool false] 29) := ⟨_, rfl⟩
  have bW0 : Below w.heap.size w W0 := by rw [hW0]; exact (Below.refl _ _).alloc (Nat.le_refl _) _
  have hbox : W0.heap[w.heap.size]? = some (.cells #[.int .i64 x0, .int .i64 x1, .slice a n c, .int .i64 x3, .int .i64 x4, .bool false] 29 (0, 0)) := by rw [hW0]; exact heap_alloc_new w _
  have zW0 : W0.heap.size = w.heap.size + 1 := by rw [hW0]; simp
  have HW0 : Hid (W0 = _) := hW0
  have HBX : Hid (∀ w', Below W0.heap.size W0 w' → w'.heap[w.heap.size]? = some (.cells #[.int .i64 x0, .int .i64 x1, .slice a n c, .int .i64 x3, .int .i64 x4, .bool false] 29 (0, 0))) := fun w' h' => (h'.block _ (by omega)).trans hbox
  have HB0 : Hid (Below w.heap.size w W0) := bW0
  clear hW0 hbox
  have y0' := HBX.out W0 (Below.refl _ _)
  have y0 : W0.cell? ⟨w.heap.size, 0, none⟩ = some (.int .i64 x0) := box_cell y0' rfl
  have y1 : W0.cell? ⟨w.heap.size, 1, none⟩ = some (.int .i64 x1) := box_cell y0' rfl
  have y2 : W0.cell? ⟨w.heap.size, 2, none⟩ = some (.slice a n c) := box_cell y0' rfl
  have y3 : W0.cell? ⟨w.heap.size, 3, none⟩ = some (.int .i64 x3) := box_cell y0' rfl
  have y4 : W0.cell? ⟨w.heap.size, 4, none⟩ = some (.int .i64 x4) := box_cell y0' rfl
  have y5 : W0.cell? ⟨w.heap.size, 5, none⟩ = some (.bool false) := box_cell y0' rfl
  clear y0'
  have qg : Hid (∀ w', Below w.heap.size w w' → Calls Tryd.prog 19 #[.agg #[.int .i64 x0, .int .i64 x1, .slice a n c, .int .i64 x3, .int .i64 x4, .bool false]] w' fun e w'' => e = .returned (.bool (gokB (x0, x1, zs, x3, x4, false, ()))) ∧ Below w'.heap.size w' w'') := fun w' hb => gok_any x0 x1 x3 x4 a n c false zs w' (hr.later hb)
  have qp : Hid (∀ w', Calls Tryd.prog 20 #[.agg #[.int .i64 x0, .int .i64 x1, .slice a n c, .int .i64 x3, .int .i64 x4, .bool false], .int .i64 x, .int .i64 x4] w' fun e w'' => e = .returned (.bool (placeB x0 x1 x x4)) ∧ Below w'.heap.size w' w'') := fun w' => place_any x0 x1 x3 x4 a n c false x x4 w'
  clear hok hgp EA0
  go_enter Tryd.func7, Tryd.ntmps7
  go_wp2_with fail
  rw [← HW0.out]
  refine (qg.out _ HB0.out).mono ?_
  rintro e w1 ⟨rfl, hb1⟩
  rw [HG.out]
  have b1 := HB0.out.trans (hb1.mono HB0.out.size)
  clear y0 y1 y2 y3 y4 y5
  have i_w1 := HBX.out w1 hb1
  have y0 : w1.cell? ⟨w.heap.size, 0, none⟩ = some (.int .i64 x0) := box_cell i_w1 rfl
  have y1 : w1.cell? ⟨w.heap.size, 1, none⟩ = some (.int .i64 x1) := box_cell i_w1 rfl
  have y2 : w1.cell? ⟨w.heap.size, 2, none⟩ = some (.slice a n c) := box_cell i_w1 rfl
  have y3 : w1.cell? ⟨w.heap.size, 3, none⟩ = some (.int .i64 x3) := box_cell i_w1 rfl
  have y4 : w1.cell? ⟨w.heap.size, 4, none⟩ = some (.int .i64 x4) := box_cell i_w1 rfl
  have y5 : w1.cell? ⟨w.heap.size, 5, none⟩ = some (.bool false) := box_cell i_w1 rfl
  clear i_w1
  have k1 := hb1
  go_wp2_with fail
  refine (qp.out _).mono ?_
  rintro e w2 ⟨rfl, hb2⟩
  rw [HP.out]
  have b2 := b1.trans (hb2.mono b1.size)
  have k2 := k1.trans (hb2.mono k1.size)
  have t2 := tab_later htab b2
  have zs2 := b2.size
  clear y0 y1 y2 y3 y4 y5 b1 k1 hb1 hb2
  have i_w2 := HBX.out w2 k2
  have y0 : w2.cell? ⟨w.heap.size, 0, none⟩ = some (.int .i64 x0) := box_cell i_w2 rfl
  have y1 : w2.cell? ⟨w.heap.size, 1, none⟩ = some (.int .i64 x1) := box_cell i_w2 rfl
  have y2 : w2.cell? ⟨w.heap.size, 2, none⟩ = some (.slice a n c) := box_cell i_w2 rfl
  have y3 : w2.cell? ⟨w.heap.size, 3, none⟩ = some (.int .i64 x3) := box_cell i_w2 rfl
  have y4 : w2.cell? ⟨w.heap.size, 4, none⟩ = some (.int .i64 x4) := box_cell i_w2 rfl
  have y5 : w2.cell? ⟨w.heap.size, 5, none⟩ = some (.bool false) := box_cell i_w2 rfl
  clear i_w2
  clear hX hxx hx
  go_wp2_with fail
  refine (edge_txt x w2 w.heap.size zs2).mono ?_
  rintro e w3 ⟨v3, rfl, p3, hb3⟩
  have b3 := b2.trans (hb3.mono b2.size)
  have k3 := k2.trans (hb3.mono k2.size)
  have t3 := tab_later t2 hb3
  have zs3 := b3.size
  obtain ⟨q3, c3, e3⟩ := p3.val
  subst e3
  have p3_3 := p3
  clear p3
  clear hb3 b2 k2 t2
  clear y0 y1 y2 y3 y4 y5
  have i_w3 := HBX.out w3 k3
  have y3 : w3.cell? ⟨w.heap.size, 3, none⟩ = some (.int .i64 x3) := box_cell i_w3 rfl
  clear i_w3
  go_wp2_with fail
  refine (back_txt M w3 w.heap.size zs3).mono ?_
  rintro e w4 ⟨v4, rfl, p4, hb4⟩
  have b4 := b3.trans (hb4.mono b3.size)
  have k4 := k3.trans (hb4.mono k3.size)
  have t4 := tab_later t3 hb4
  have zs4 := b4.size
  obtain ⟨q4, c4, e4⟩ := p4.val
  subst e4
  have p3_4 := p3_3.later hb4
  have p4_4 := p4
  clear p4
  clear p3_3
  clear hb4 b3 k3 t3
  clear y3
  have i_w4 := HBX.out w4 k4
  have y3 : w4.cell? ⟨w.heap.size, 3, none⟩ = some (.int .i64 x3) := box_cell i_w4 rfl
  clear i_w4
  go_wp2_with fail
  refine (col_txt D fC rfl HDM.out.1 w4 w.heap.size zs4 t4).mono ?_
  rintro e w5 ⟨v5, rfl, p5, hb5⟩
  have b5 := b4.trans (hb5.mono b4.size)
  have k5 := k4.trans (hb5.mono k4.size)
  have t5 := tab_later t4 hb5
  have zs5 := b5.size
  obtain ⟨q5, c5, e5⟩ := p5.val
  subst e5
  have p3_5 := p3_4.later hb5
  have p4_5 := p4_4.later hb5
  have p5_5 := p5
  clear p5
  clear p3_4
  clear p4_4
  clear hb5 b4 k4 t4
  clear y3
  have i_w5 := HBX.out w5 k5
  have y3 : w5.cell? ⟨w.heap.size, 3, none⟩ = some (.int .i64 x3) := box_cell i_w5 rfl
  clear i_w5
  go_wp2_with fail
  refine (col_txt M fD rfl HDM.out.2 w5 w.heap.size zs5 t5).mono ?_
  rintro e w6 ⟨v6, rfl, p6, hb6⟩
  have b6 := b5.trans (hb6.mono b5.size)
  have k6 := k5.trans (hb6.mono k5.size)
  have t6 := tab_later t5 hb6
  have zs6 := b6.size
  obtain ⟨q6, c6, e6⟩ := p6.val
  subst e6
  have p3_6 := p3_5.later hb6
  have p4_6 := p4_5.later hb6
  have p5_6 := p5_5.later hb6
  have p6_6 := p6
  clear p6
  clear p3_5
  clear p4_5
  clear p5_5
  clear hb6 b5 k5 t5
  clear y3
  have i_w6 := HBX.out w6 k6
  have y3 : w6.cell? ⟨w.heap.size, 3, none⟩ = some (.int .i64 x3) := box_cell i_w6 rfl
  clear i_w6
  go_wp2_with fail
  refine (goto_txt x x4 w6 w.heap.size zs6 t6).mono ?_
  rintro e w7 ⟨v7, rfl, p7, hb7⟩
  have b7 := b6.trans (hb7.mono b6.size)
  have k7 := k6.trans (hb7.mono k6.size)
  have t7 := tab_later t6 hb7
  have zs7 := b7.size
  obtain ⟨q7, c7, e7⟩ := p7.val
  subst e7
  have p3_7 := p3_6.later hb7
  have p4_7 := p4_6.later hb7
  have p5_7 := p5_6.later hb7
  have p6_7 := p6_6.later hb7
  have p7_7 := p7
  clear p7
  clear p3_6
  clear p4_6
  clear p5_6
  clear p6_6
  clear hb7 b6 k6 t6
  clear y3
  have i_w7 := HBX.out w7 k7
  have y3 : w7.cell? ⟨w.heap.size, 3, none⟩ = some (.int .i64 x3) := box_cell i_w7 rfl
  clear i_w7
  have br : Below w7.heap.size w7 (w7.alloc (.cells #[.slice q3 (edgeZ x).length c3, .slice q4 (backZ M).length c4, .slice q5 (colZ D fC).length c5, .slice q6 (colZ M fD).length c6, .slice q7 (gotoZ x x4).length c7] 26)) := (Below.refl _ _).alloc (Nat.le_refl _) _
  have QS : Hid (Calls Tryd.prog 22 #[.slice (some ⟨w7.heap.size, 0, none⟩) 5 5] (w7.alloc (.cells #[.slice q3 (edgeZ x).length c3, .slice q4 (backZ M).length c4, .slice q5 (colZ D fC).length c5, .slice q6 (colZ M fD).length c6, .slice q7 (gotoZ x x4).length c7] 26)) fun e w' => ∃ v, e = .returned v ∧ Txt w' w.heap.size v (pickL [edgeZ x, backZ M, colZ D fC, colZ M fD, gotoZ x x4]) ∧ Below w.heap.size w w') :=
    (short_txt [.slice q3 (edgeZ x).length c3, .slice q4 (backZ M).length c4, .slice q5 (colZ D fC).length c5, .slice q6 (colZ M fD).length c6, .slice q7 (gotoZ x x4).length c7] [edgeZ x, backZ M, colZ D fC, colZ M fD, gotoZ x x4] w7.heap.size 5 26 _ w.heap.size rfl rfl (by omega) (heap_alloc_new _ _) (fun i hi => by
      rcases (show i = 0 ∨ i = 1 ∨ i = 2 ∨ i = 3 ∨ i = 4 by omega) with rfl | rfl | rfl | rfl | rfl
      · exact p3_7.later br
      · exact p4_7.later br
      · exact p5_7.later br
      · exact p6_7.later br
      · exact p7_7.later br)).mono fun e w' ⟨v, h1, h2, h3⟩ => ⟨v, h1, h2, (b7.trans (br.mono b7.size)).trans (h3.mono (by have := br.size; omega))⟩
  clear br b7 k7 t7 p3_7 p4_7 p5_7 p6_7 p7_7
  go_wp2_with fail
  refine QS.out.mono ?_
  rintro e w9 ⟨v9, rfl, p9, b9⟩
  have HH : Hid (_ ∧ _) := ⟨p9, b9⟩
  clear p9 b9
  go_wp2
  go_ret2
  exact ⟨_, by rw [ES.out]; rfl, by rw [EA.out]; exact HH.out.1, HH.out.2⟩

end Go.Proofs.YthgbionamelloaaDoor
