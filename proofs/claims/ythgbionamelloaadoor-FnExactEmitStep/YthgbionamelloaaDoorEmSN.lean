/-
  Moving the cursor: EmitStep of the model, refusals. By program (emsmgen.py).
-/
import Derived.Test.YthgbionamelloaaDoorEmSM
namespace Go.Proofs.YthgbionamelloaaDoor
open Go.RowKit
set_option linter.unusedVariables false
set_option linter.unusedSimpArgs false
set_option maxRecDepth 100000

set_option maxHeartbeats 4000000 in
theorem specStep_no (x0 x1 x3 x4 : Int) (a : Option Addr) (n c : Nat) (x5 : Bool) (zs : List Int) (x y : Int) (w : World) (hr : Reads (.sl .int) w [.slice a n c] zs) (hok : stepOk (x0, x1, zs, x3, x4, x5, ()) x y = false) :
    Calls Tryd.prog 5 #[.agg #[.int .i64 x0, .int .i64 x1, .slice a n c, .int .i64 x3, .int .i64 x4, .bool x5], .int .i64 x, .int .i64 y] w fun e w' => ∃ v, e = .returned (.tuple #[v, .bool (stepOk (x0, x1, zs, x3, x4, x5, ()) x y)]) ∧ Txt w' w.heap.size v (stepA (x0, x1, zs, x3, x4, x5, ()) x y) ∧ Below w.heap.size w w' := by
  have ES : Hid (stepOk (x0, x1, zs, x3, x4, x5, ()) x y = false) := hok
  have EA : Hid (stepA (x0, x1, zs, x3, x4, x5, ()) x y = []) := stepA_no hok
  obtain ⟨W0, hW0⟩ : ∃ W0, W0 = w.alloc (.cells #[.int .i64 x0, .int .i64 x1, .slice a n c, .int .i64 x3, .int .i64 x4, .bool x5] 29) := ⟨_, rfl⟩
  have bW0 : Below w.heap.size w W0 := by rw [hW0]; exact (Below.refl _ _).alloc (Nat.le_refl _) _
  have hbox : W0.heap[w.heap.size]? = some (.cells #[.int .i64 x0, .int .i64 x1, .slice a n c, .int .i64 x3, .int .i64 x4, .bool x5] 29 (0, 0)) := by rw [hW0]; exact heap_alloc_new w _
  have zW0 : W0.heap.size = w.heap.size + 1 := by rw [hW0]; simp
  have HW0 : Hid (W0 = _) := hW0
  have HBX : Hid (∀ w', Below W0.heap.size W0 w' → w'.heap[w.heap.size]? = some (.cells #[.int .i64 x0, .int .i64 x1, .slice a n c, .int .i64 x3, .int .i64 x4, .bool x5] 29 (0, 0))) := fun w' h' => (h'.block _ (by omega)).trans hbox
  have HB0 : Hid (Below w.heap.size w W0) := bW0
  clear hW0 hbox
  have y0' := HBX.out W0 (Below.refl _ _)
  have y0 : W0.cell? ⟨w.heap.size, 0, none⟩ = some (.int .i64 x0) := box_cell y0' rfl
  have y1 : W0.cell? ⟨w.heap.size, 1, none⟩ = some (.int .i64 x1) := box_cell y0' rfl
  have y2 : W0.cell? ⟨w.heap.size, 2, none⟩ = some (.slice a n c) := box_cell y0' rfl
  have y3 : W0.cell? ⟨w.heap.size, 3, none⟩ = some (.int .i64 x3) := box_cell y0' rfl
  have y4 : W0.cell? ⟨w.heap.size, 4, none⟩ = some (.int .i64 x4) := box_cell y0' rfl
  have y5 : W0.cell? ⟨w.heap.size, 5, none⟩ = some (.bool x5) := box_cell y0' rfl
  clear y0'
  have qg : Hid (∀ w', Below w.heap.size w w' → Calls Tryd.prog 14 #[.agg #[.int .i64 x0, .int .i64 x1, .slice a n c, .int .i64 x3, .int .i64 x4, .bool x5]] w' fun e w'' => e = .returned (.bool (gokB (x0, x1, zs, x3, x4, x5, ()))) ∧ Below w'.heap.size w' w'') := fun w' hb => specGok_any x0 x1 x3 x4 a n c x5 zs w' (hr.later hb)
  cases hgv : gokB (x0, x1, zs, x3, x4, x5, ()) with
  | false =>
    have HG : Hid (gokB (x0, x1, zs, x3, x4, x5, ()) = false) := hgv
    clear hok hgv
    go_enter Tryd.func5, Tryd.ntmps5
    go_wp2_with fail
    rw [← HW0.out]
    refine (qg.out _ HB0.out).mono ?_
    rintro e w1 ⟨rfl, hb1⟩
    rw [HG.out]
    have b1 := HB0.out.trans (hb1.mono HB0.out.size)
    have k1 := hb1
    have zs1 := b1.size
    clear y0 y1 y2 y3 y4 y5 hb1
    have i_w1 := HBX.out w1 k1
    have y0 : w1.cell? ⟨w.heap.size, 0, none⟩ = some (.int .i64 x0) := box_cell i_w1 rfl
    have y1 : w1.cell? ⟨w.heap.size, 1, none⟩ = some (.int .i64 x1) := box_cell i_w1 rfl
    have y2 : w1.cell? ⟨w.heap.size, 2, none⟩ = some (.slice a n c) := box_cell i_w1 rfl
    have y3 : w1.cell? ⟨w.heap.size, 3, none⟩ = some (.int .i64 x3) := box_cell i_w1 rfl
    have y4 : w1.cell? ⟨w.heap.size, 4, none⟩ = some (.int .i64 x4) := box_cell i_w1 rfl
    have y5 : w1.cell? ⟨w.heap.size, 5, none⟩ = some (.bool x5) := box_cell i_w1 rfl
    clear i_w1
    have HH : Hid (_ ∧ _) := ⟨Txt.nil w1 w.heap.size, b1⟩
    go_wp2
    go_ret2
    exact ⟨_, by rw [ES.out]; rfl, by rw [EA.out]; exact HH.out.1, HH.out.2⟩
  | true =>
    have HG : Hid (gokB (x0, x1, zs, x3, x4, x5, ()) = true) := hgv
    have hp : ¬ (0 ≤ x ∧ x < x0 ∧ 0 ≤ y ∧ y < x1) := fun h => by unfold stepOk at hok; rw [hgv, show placeB x0 x1 x y = true from placeB_iff.2 h] at hok; simp at hok
    clear hok hgv
    rcases (show x < 0 ∨ (0 ≤ x ∧ x0 ≤ x) ∨ (0 ≤ x ∧ x < x0 ∧ y < 0) ∨ (0 ≤ x ∧ x < x0 ∧ 0 ≤ y ∧ x1 ≤ y) by omega) with h1 | ⟨h1, h2⟩ | ⟨h1, h2, h3⟩ | ⟨h1, h2, h3, h4⟩
    · have d1 : decide (x < 0) = true := decide_eq_true (by omega)
      clear hp h1
      go_enter Tryd.func5, Tryd.ntmps5
      go_wp2_with fail
      rw [← HW0.out]
      refine (qg.out _ HB0.out).mono ?_
      rintro e w1 ⟨rfl, hb1⟩
      rw [HG.out]
      have b1 := HB0.out.trans (hb1.mono HB0.out.size)
      have k1 := hb1
      have zs1 := b1.size
      clear y0 y1 y2 y3 y4 y5 hb1
      have i_w1 := HBX.out w1 k1
      have y0 : w1.cell? ⟨w.heap.size, 0, none⟩ = some (.int .i64 x0) := box_cell i_w1 rfl
      have y1 : w1.cell? ⟨w.heap.size, 1, none⟩ = some (.int .i64 x1) := box_cell i_w1 rfl
      have y2 : w1.cell? ⟨w.heap.size, 2, none⟩ = some (.slice a n c) := box_cell i_w1 rfl
      have y3 : w1.cell? ⟨w.heap.size, 3, none⟩ = some (.int .i64 x3) := box_cell i_w1 rfl
      have y4 : w1.cell? ⟨w.heap.size, 4, none⟩ = some (.int .i64 x4) := box_cell i_w1 rfl
      have y5 : w1.cell? ⟨w.heap.size, 5, none⟩ = some (.bool x5) := box_cell i_w1 rfl
      clear i_w1
      have HH : Hid (_ ∧ _) := ⟨Txt.nil w1 w.heap.size, b1⟩
      go_wp2
      go_ret2
      exact ⟨_, by rw [ES.out]; rfl, by rw [EA.out]; exact HH.out.1, HH.out.2⟩
    · have d1 : decide (x < 0) = false := decide_eq_false (by omega)
      have d2 : decide (x0 ≤ x) = true := decide_eq_true (by omega)
      clear hp h1 h2
      go_enter Tryd.func5, Tryd.ntmps5
      go_wp2_with fail
      rw [← HW0.out]
      refine (qg.out _ HB0.out).mono ?_
      rintro e w1 ⟨rfl, hb1⟩
      rw [HG.out]
      have b1 := HB0.out.trans (hb1.mono HB0.out.size)
      have k1 := hb1
      have zs1 := b1.size
      clear y0 y1 y2 y3 y4 y5 hb1
      have i_w1 := HBX.out w1 k1
      have y0 : w1.cell? ⟨w.heap.size, 0, none⟩ = some (.int .i64 x0) := box_cell i_w1 rfl
      have y1 : w1.cell? ⟨w.heap.size, 1, none⟩ = some (.int .i64 x1) := box_cell i_w1 rfl
      have y2 : w1.cell? ⟨w.heap.size, 2, none⟩ = some (.slice a n c) := box_cell i_w1 rfl
      have y3 : w1.cell? ⟨w.heap.size, 3, none⟩ = some (.int .i64 x3) := box_cell i_w1 rfl
      have y4 : w1.cell? ⟨w.heap.size, 4, none⟩ = some (.int .i64 x4) := box_cell i_w1 rfl
      have y5 : w1.cell? ⟨w.heap.size, 5, none⟩ = some (.bool x5) := box_cell i_w1 rfl
      clear i_w1
      have HH : Hid (_ ∧ _) := ⟨Txt.nil w1 w.heap.size, b1⟩
      go_wp2
      go_ret2
      exact ⟨_, by rw [ES.out]; rfl, by rw [EA.out]; exact HH.out.1, HH.out.2⟩
    · have d1 : decide (x < 0) = false := decide_eq_false (by omega)
      have d2 : decide (x0 ≤ x) = false := decide_eq_false (by omega)
      have d3 : decide (y < 0) = true := decide_eq_true (by omega)
      clear hp h1 h2 h3
      go_enter Tryd.func5, Tryd.ntmps5
      go_wp2_with fail
      rw [← HW0.out]
      refine (qg.out _ HB0.out).mono ?_
      rintro e w1 ⟨rfl, hb1⟩
      rw [HG.out]
      have b1 := HB0.out.trans (hb1.mono HB0.out.size)
      have k1 := hb1
      have zs1 := b1.size
      clear y0 y1 y2 y3 y4 y5 hb1
      have i_w1 := HBX.out w1 k1
      have y0 : w1.cell? ⟨w.heap.size, 0, none⟩ = some (.int .i64 x0) := box_cell i_w1 rfl
      have y1 : w1.cell? ⟨w.heap.size, 1, none⟩ = some (.int .i64 x1) := box_cell i_w1 rfl
      have y2 : w1.cell? ⟨w.heap.size, 2, none⟩ = some (.slice a n c) := box_cell i_w1 rfl
      have y3 : w1.cell? ⟨w.heap.size, 3, none⟩ = some (.int .i64 x3) := box_cell i_w1 rfl
      have y4 : w1.cell? ⟨w.heap.size, 4, none⟩ = some (.int .i64 x4) := box_cell i_w1 rfl
      have y5 : w1.cell? ⟨w.heap.size, 5, none⟩ = some (.bool x5) := box_cell i_w1 rfl
      clear i_w1
      have HH : Hid (_ ∧ _) := ⟨Txt.nil w1 w.heap.size, b1⟩
      go_wp2
      go_ret2
      exact ⟨_, by rw [ES.out]; rfl, by rw [EA.out]; exact HH.out.1, HH.out.2⟩
    · have d1 : decide (x < 0) = false := decide_eq_false (by omega)
      have d2 : decide (x0 ≤ x) = false := decide_eq_false (by omega)
      have d3 : decide (y < 0) = false := decide_eq_false (by omega)
      have d4 : decide (x1 ≤ y) = true := decide_eq_true (by omega)
      clear hp h1 h2 h3 h4
      go_enter Tryd.func5, Tryd.ntmps5
      go_wp2_with fail
      rw [← HW0.out]
      refine (qg.out _ HB0.out).mono ?_
      rintro e w1 ⟨rfl, hb1⟩
      rw [HG.out]
      have b1 := HB0.out.trans (hb1.mono HB0.out.size)
      have k1 := hb1
      have zs1 := b1.size
      clear y0 y1 y2 y3 y4 y5 hb1
      have i_w1 := HBX.out w1 k1
      have y0 : w1.cell? ⟨w.heap.size, 0, none⟩ = some (.int .i64 x0) := box_cell i_w1 rfl
      have y1 : w1.cell? ⟨w.heap.size, 1, none⟩ = some (.int .i64 x1) := box_cell i_w1 rfl
      have y2 : w1.cell? ⟨w.heap.size, 2, none⟩ = some (.slice a n c) := box_cell i_w1 rfl
      have y3 : w1.cell? ⟨w.heap.size, 3, none⟩ = some (.int .i64 x3) := box_cell i_w1 rfl
      have y4 : w1.cell? ⟨w.heap.size, 4, none⟩ = some (.int .i64 x4) := box_cell i_w1 rfl
      have y5 : w1.cell? ⟨w.heap.size, 5, none⟩ = some (.bool x5) := box_cell i_w1 rfl
      clear i_w1
      have HH : Hid (_ ∧ _) := ⟨Txt.nil w1 w.heap.size, b1⟩
      go_wp2
      go_ret2
      exact ⟨_, by rw [ES.out]; rfl, by rw [EA.out]; exact HH.out.1, HH.out.2⟩

end Go.Proofs.YthgbionamelloaaDoor
