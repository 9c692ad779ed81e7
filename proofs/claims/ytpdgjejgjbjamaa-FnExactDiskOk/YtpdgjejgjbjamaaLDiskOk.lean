/-
  The walk of the law FnExactDiskOk over the contracts of its two functions. By program (lawgen.py).
-/
import Derived.Test.YtpdgjejgjbjamaaTyDisk
namespace Go.Proofs.Ytpdgjejgjbjamaa
open Go.RowKit
set_option linter.unusedVariables false

set_option maxRecDepth 100000 in
set_option maxHeartbeats 4000000 in
theorem diskOk_over (cs : List Value) (d : shDisk.D) (V : Bool) (w : World) (hr : Reads shDisk w cs d)
    (hS : ∀ w' c, Reads shDisk w' c d → shDisk.sz d ≤ 1048576 → Calls Try.prog 11 #[.agg c.toArray] w' fun e w'' => e = .returned (.bool V) ∧ Below w'.heap.size w' w'')
    (hI : ∀ w' c, Reads shDisk w' c d → shDisk.sz d ≤ 1048576 → Calls Try.prog 13 #[.agg c.toArray] w' fun e w'' => e = .returned (.bool V) ∧ Below w'.heap.size w' w'') :
    Calls Try.prog 4 #[.agg cs.toArray] w fun e w' => e = .returned (.bool true) ∧ Below w.heap.size w w' := by
  have qsz : Hid (∀ w', Below w.heap.size w w' → Calls Try.prog 10 #[.agg cs.toArray, .int .i64 1048576] w' fun e w'' => e = .returned (.int .i64 (szAns (shDisk.sz d) 1048576)) ∧ Below w'.heap.size w' w'') := fun w' h' => szDisk_any cs d _ w' (hr.later h') (by omega) (by omega)
  have qto : Hid (∀ w', Below w.heap.size w w' → shDisk.sz d ≤ 1048576 → Calls Try.prog 12 #[.agg cs.toArray] w' fun e w'' => ∃ cs' F, e = .returned (.agg cs'.toArray) ∧ Own shDisk w'' w'.heap.size cs' d F ∧ F.Nodup ∧ Below w'.heap.size w' w'') := fun w' h' hs => toDisk_any cs d w' (hr.later h') hs
  have qeq : Hid (∀ w' c1 c2, Reads shDisk w' c1 d → Reads shDisk w' c2 d → shDisk.sz d ≤ 1048576 → Calls Try.prog 14 #[.agg c1.toArray, .agg c2.toArray] w' fun e w'' => e = .returned (.bool true) ∧ Below w'.heap.size w' w'') := fun w' c1 c2 h1 h2 hs => eqDisk_any c1 c2 d w' h1 h2 hs
  have qS : Hid (∀ w' c, Reads shDisk w' c d → shDisk.sz d ≤ 1048576 → Calls Try.prog 11 #[.agg c.toArray] w' fun e w'' => e = .returned (.bool V) ∧ Below w'.heap.size w' w'') := hS
  have qI : Hid (∀ w' c, Reads shDisk w' c d → shDisk.sz d ≤ 1048576 → Calls Try.prog 13 #[.agg c.toArray] w' fun e w'' => e = .returned (.bool V) ∧ Below w'.heap.size w' w'') := hI
  obtain ⟨a3, n3, c3, a4, n4, c4, a5, n5, c5, rfl, r0, r1, r2⟩ := open_Disk hr
  obtain ⟨x0, e0⟩ : ∃ x : Int, x = d.1 := ⟨_, rfl⟩
  obtain ⟨x1, e1⟩ : ∃ x : Int, x = d.2.1 := ⟨_, rfl⟩
  obtain ⟨x2, e2⟩ : ∃ x : Int, x = d.2.2.1 := ⟨_, rfl⟩
  rw [← e0, ← e1, ← e2] at qsz qto ⊢
  obtain ⟨K, hK⟩ : ∃ K, K = shDisk.sz d := ⟨_, rfl⟩
  rw [← hK] at qsz qto qeq qS qI
  have HE : Hid (x0 = d.1 ∧ x1 = d.2.1 ∧ x2 = d.2.2.1 ∧ True ∧ True) := ⟨e0, e1, e2, trivial, trivial⟩
  have hne : (V != V) = false := by simp
  obtain ⟨W0, hW0⟩ : ∃ W0, W0 = w.alloc (.cells #[.int .i64 x0, .int .i64 x1, .int .i64 x2, .slice a3 n3 c3, .slice a4 n4 c4, .slice a5 n5 c5] 27) := ⟨_, rfl⟩
  have bW0 : Below w.heap.size w W0 := by rw [hW0]; exact (Below.refl _ _).alloc (Nat.le_refl _) _
  have hbox : W0.heap[w.heap.size]? = some (.cells #[.int .i64 x0, .int .i64 x1, .int .i64 x2, .slice a3 n3 c3, .slice a4 n4 c4, .slice a5 n5 c5] 27 (0, 0)) := by rw [hW0]; exact heap_alloc_new w _
  have zW0 : W0.heap.size = w.heap.size + 1 := by rw [hW0]; simp
  have HW0 : Hid (W0 = w.alloc (.cells #[.int .i64 x0, .int .i64 x1, .int .i64 x2, .slice a3 n3 c3, .slice a4 n4 c4, .slice a5 n5 c5] 27)) := hW0
  have BX : Hid (∀ w', Below W0.heap.size W0 w' → w'.heap[w.heap.size]? = some (.cells #[.int .i64 x0, .int .i64 x1, .int .i64 x2, .slice a3 n3 c3, .slice a4 n4 c4, .slice a5 n5 c5] 27 (0, 0))) := fun w' h' => (h'.block _ (by omega)).trans hbox
  clear hr hS hI hK hW0 hbox r0 r1 r2 e0 e1 e2
  go_enter Try.func4, Try.ntmps4
  go_wp2_with fail
  rw [← HW0.out]
  refine (qsz.out _ bW0).mono ?_
  rintro e w1 ⟨rfl, hb1⟩
  have d1 : Below W0.heap.size W0 w1 := hb1
  have b1 := bW0.trans (d1.mono bW0.size)
  have i1 := BX.out w1 d1
  by_cases hs : K ≤ 1048576
  · rw [szAns_yes (by omega)]
    have t0 : ¬ ((1048576 : Int) - (K : Int) < 0) := by omega
    have y0 : w1.cell? ⟨w.heap.size, 0, none⟩ = some (.int .i64 x0) := box_cell i1 rfl
    have y1 : w1.cell? ⟨w.heap.size, 1, none⟩ = some (.int .i64 x1) := box_cell i1 rfl
    have y2 : w1.cell? ⟨w.heap.size, 2, none⟩ = some (.int .i64 x2) := box_cell i1 rfl
    have y3 : w1.cell? ⟨w.heap.size, 3, none⟩ = some (.slice a3 n3 c3) := box_cell i1 rfl
    have y4 : w1.cell? ⟨w.heap.size, 4, none⟩ = some (.slice a4 n4 c4) := box_cell i1 rfl
    have y5 : w1.cell? ⟨w.heap.size, 5, none⟩ = some (.slice a5 n5 c5) := box_cell i1 rfl
    clear i1 hb1
    go_wp2_with fail
    refine (qto.out _ b1 hs).mono ?_
    rintro e w2 ⟨cs2, F2, rfl, o2, nd2, hb2⟩
    have d2 := d1.trans (hb2.mono d1.size)
    have b2 := bW0.trans (d2.mono bW0.size)
    clear y0 y1 y2 y3 y4 y5
    go_wp2_with fail
    refine (qS.out _ cs2 o2.reads hs).mono ?_
    rintro e w3 ⟨rfl, hb3⟩
    have d3 := d2.trans (hb3.mono d2.size)
    have b3 := bW0.trans (d3.mono bW0.size)
    have i3 := BX.out w3 d3
    have y0 : w3.cell? ⟨w.heap.size, 0, none⟩ = some (.int .i64 x0) := box_cell i3 rfl
    have y1 : w3.cell? ⟨w.heap.size, 1, none⟩ = some (.int .i64 x1) := box_cell i3 rfl
    have y2 : w3.cell? ⟨w.heap.size, 2, none⟩ = some (.int .i64 x2) := box_cell i3 rfl
    have y3 : w3.cell? ⟨w.heap.size, 3, none⟩ = some (.slice a3 n3 c3) := box_cell i3 rfl
    have y4 : w3.cell? ⟨w.heap.size, 4, none⟩ = some (.slice a4 n4 c4) := box_cell i3 rfl
    have y5 : w3.cell? ⟨w.heap.size, 5, none⟩ = some (.slice a5 n5 c5) := box_cell i3 rfl
    clear i3 hb2 hb3
    go_wp2_with fail
    refine (qto.out _ b3 hs).mono ?_
    rintro e w4 ⟨cs4, F4, he4, o4, nd4, hb4⟩
    have d4 := d3.trans (hb4.mono d3.size)
    have b4 := bW0.trans (d4.mono bW0.size)
    have z4 := d4.size
    obtain ⟨p3, m3, k3, p4, m4, k4, p5, m5, k5, hcs, _⟩ := open_Disk o4.reads
    rw [← HE.out.1, ← HE.out.2.1, ← HE.out.2.2.1] at hcs
    subst hcs
    subst he4
    have O4 : Hid (Own shDisk w4 w3.heap.size [.int .i64 x0, .int .i64 x1, .int .i64 x2, .slice p3 m3 k3, .slice p4 m4 k4, .slice p5 m5 k5] d F4 ∧ F4.Nodup) := ⟨o4, nd4⟩
    clear y0 y1 y2 y3 y4 y5 o4 nd4 hb4 o2 nd2
    go_wp2_with fail
    obtain ⟨W4, hW4⟩ : ∃ W4, W4 = w4.alloc (.cells #[.int .i64 x0, .int .i64 x1, .int .i64 x2, .slice p3 m3 k3, .slice p4 m4 k4, .slice p5 m5 k5] 34) := ⟨_, rfl⟩
    have bw4 : Below w4.heap.size w4 W4 := by rw [hW4]; exact (Below.refl _ _).alloc (Nat.le_refl _) _
    have dW4 : Below W0.heap.size W0 W4 := d4.trans (bw4.mono d4.size)
    have bW4 := bW0.trans (dW4.mono bW0.size)
    have zW4 : W4.heap.size = w4.heap.size + 1 := by rw [hW4]; simp
    have hx4 : W4.heap[w4.heap.size]? = some (.cells #[.int .i64 x0, .int .i64 x1, .int .i64 x2, .slice p3 m3 k3, .slice p4 m4 k4, .slice p5 m5 k5] 34 (0, 0)) := by rw [hW4]; exact heap_alloc_new w4 _
    have oW4 : Own shDisk W4 w3.heap.size [.int .i64 x0, .int .i64 x1, .int .i64 x2, .slice p3 m3 k3, .slice p4 m4 k4, .slice p5 m5 k5] d F4 := O4.out.1.later bw4
    rw [← hW4]
    clear hW4 bw4
    refine (qI.out _ _ oW4.reads hs).mono ?_
    rintro e w5 ⟨rfl, hb5⟩
    have d5 := dW4.trans (hb5.mono dW4.size)
    have b5 := bW0.trans (d5.mono bW0.size)
    have z5 := hb5.size
    have o5 := oW4.later hb5
    have iA := BX.out w5 d5
    have iB : w5.heap[w4.heap.size]? = some (.cells #[.int .i64 x0, .int .i64 x1, .int .i64 x2, .slice p3 m3 k3, .slice p4 m4 k4, .slice p5 m5 k5] 34 (0, 0)) := (hb5.block _ (by omega)).trans hx4
    have O5 : Hid (Own shDisk w5 w3.heap.size [.int .i64 x0, .int .i64 x1, .int .i64 x2, .slice p3 m3 k3, .slice p4 m4 k4, .slice p5 m5 k5] d F4) := o5
    have ya0 : w5.cell? ⟨w.heap.size, 0, none⟩ = some (.int .i64 x0) := box_cell iA rfl
    have ya1 : w5.cell? ⟨w.heap.size, 1, none⟩ = some (.int .i64 x1) := box_cell iA rfl
    have ya2 : w5.cell? ⟨w.heap.size, 2, none⟩ = some (.int .i64 x2) := box_cell iA rfl
    have ya3 : w5.cell? ⟨w.heap.size, 3, none⟩ = some (.slice a3 n3 c3) := box_cell iA rfl
    have ya4 : w5.cell? ⟨w.heap.size, 4, none⟩ = some (.slice a4 n4 c4) := box_cell iA rfl
    have ya5 : w5.cell? ⟨w.heap.size, 5, none⟩ = some (.slice a5 n5 c5) := box_cell iA rfl
    have yb0 : w5.cell? ⟨w4.heap.size, 0, none⟩ = some (.int .i64 x0) := box_cell iB rfl
    have yb1 : w5.cell? ⟨w4.heap.size, 1, none⟩ = some (.int .i64 x1) := box_cell iB rfl
    have yb2 : w5.cell? ⟨w4.heap.size, 2, none⟩ = some (.int .i64 x2) := box_cell iB rfl
    have yb3 : w5.cell? ⟨w4.heap.size, 3, none⟩ = some (.slice p3 m3 k3) := box_cell iB rfl
    have yb4 : w5.cell? ⟨w4.heap.size, 4, none⟩ = some (.slice p4 m4 k4) := box_cell iB rfl
    have yb5 : w5.cell? ⟨w4.heap.size, 5, none⟩ = some (.slice p5 m5 k5) := box_cell iB rfl
    have zlt : w.heap.size < w5.heap.size := by have := d5.size; omega
    have zlt4 : w4.heap.size < w5.heap.size := by omega
    have hbb : Below w5.heap.size w5 w5 := Below.refl _ _
    clear iA iB hb5 oW4 hx4 o5 O4
    go_wp2_with fail
    go_region_held (fun w' => w'.cell? ⟨w.heap.size, 0, none⟩ = some (.int .i64 x0) ∧ w'.cell? ⟨w.heap.size, 1, none⟩ = some (.int .i64 x1) ∧ w'.cell? ⟨w.heap.size, 2, none⟩ = some (.int .i64 x2) ∧ w'.cell? ⟨w.heap.size, 3, none⟩ = some (.slice a3 n3 c3) ∧ w'.cell? ⟨w.heap.size, 4, none⟩ = some (.slice a4 n4 c4) ∧ w'.cell? ⟨w.heap.size, 5, none⟩ = some (.slice a5 n5 c5) ∧ w'.cell? ⟨w4.heap.size, 0, none⟩ = some (.int .i64 x0) ∧ w'.cell? ⟨w4.heap.size, 1, none⟩ = some (.int .i64 x1) ∧ w'.cell? ⟨w4.heap.size, 2, none⟩ = some (.int .i64 x2) ∧ w'.cell? ⟨w4.heap.size, 3, none⟩ = some (.slice p3 m3 k3) ∧ w'.cell? ⟨w4.heap.size, 4, none⟩ = some (.slice p4 m4 k4) ∧ w'.cell? ⟨w4.heap.size, 5, none⟩ = some (.slice p5 m5 k5))
      (first | go_keep | (refine ⟨?_, ?_, ?_, ?_, ?_, ?_, ?_, ?_, ?_, ?_, ?_, ?_⟩ <;> first | (refine (hb7.cell ?_).trans ?_; (have h6 := hb6.size; simp at h6 ⊢; omega); assumption) | (refine (hb6.cell ?_).trans ?_; (simp; omega); assumption)))
      (first | ((go_at_call 12; refine (qto.out _ (b5.drew) hs).mono ?_; rintro e w6 ⟨cs6, F6, rfl, o6, nd6, hb6⟩; have za0 : w6.cell? ⟨w.heap.size, 0, none⟩ = some (.int .i64 x0) := (hb6.cell (p := ⟨w.heap.size, 0, none⟩) (by simp; omega)).trans ya0; have za1 : w6.cell? ⟨w.heap.size, 1, none⟩ = some (.int .i64 x1) := (hb6.cell (p := ⟨w.heap.size, 1, none⟩) (by simp; omega)).trans ya1; have za2 : w6.cell? ⟨w.heap.size, 2, none⟩ = some (.int .i64 x2) := (hb6.cell (p := ⟨w.heap.size, 2, none⟩) (by simp; omega)).trans ya2; have za3 : w6.cell? ⟨w.heap.size, 3, none⟩ = some (.slice a3 n3 c3) := (hb6.cell (p := ⟨w.heap.size, 3, none⟩) (by simp; omega)).trans ya3; have za4 : w6.cell? ⟨w.heap.size, 4, none⟩ = some (.slice a4 n4 c4) := (hb6.cell (p := ⟨w.heap.size, 4, none⟩) (by simp; omega)).trans ya4; have za5 : w6.cell? ⟨w.heap.size, 5, none⟩ = some (.slice a5 n5 c5) := (hb6.cell (p := ⟨w.heap.size, 5, none⟩) (by simp; omega)).trans ya5; have zb0 : w6.cell? ⟨w4.heap.size, 0, none⟩ = some (.int .i64 x0) := (hb6.cell (p := ⟨w4.heap.size, 0, none⟩) (by simp; omega)).trans yb0; have zb1 : w6.cell? ⟨w4.heap.size, 1, none⟩ = some (.int .i64 x1) := (hb6.cell (p := ⟨w4.heap.size, 1, none⟩) (by simp; omega)).trans yb1; have zb2 : w6.cell? ⟨w4.heap.size, 2, none⟩ = some (.int .i64 x2) := (hb6.cell (p := ⟨w4.heap.size, 2, none⟩) (by simp; omega)).trans yb2; have zb3 : w6.cell? ⟨w4.heap.size, 3, none⟩ = some (.slice p3 m3 k3) := (hb6.cell (p := ⟨w4.heap.size, 3, none⟩) (by simp; omega)).trans yb3; have zb4 : w6.cell? ⟨w4.heap.size, 4, none⟩ = some (.slice p4 m4 k4) := (hb6.cell (p := ⟨w4.heap.size, 4, none⟩) (by simp; omega)).trans yb4; have zb5 : w6.cell? ⟨w4.heap.size, 5, none⟩ = some (.slice p5 m5 k5) := (hb6.cell (p := ⟨w4.heap.size, 5, none⟩) (by simp; omega)).trans yb5)) | ((go_at_call 14; refine (qeq.out _ _ cs6 (O5.out.later ((Below.drew hbb).trans (hb6.mono (by simp)))).reads o6.reads hs).mono ?_; rintro e w7 ⟨rfl, hb7⟩)))
    have b7 : Below w.heap.size w w7 := b5.drew.trans ((hb6.trans (hb7.mono hb6.size)).mono b5.drew.size)
    clear hb6 hb7 o6 nd6 za0 za1 za2 za3 za4 za5 zb0 zb1 zb2 zb3 zb4 zb5
    go_wp2
    go_ret
    exact ⟨rfl, b7⟩
  · rw [szAns_no (by omega)]
    clear i1 hb1
    go_wp2
    go_ret
    exact ⟨rfl, b1⟩

end Go.Proofs.Ytpdgjejgjbjamaa
