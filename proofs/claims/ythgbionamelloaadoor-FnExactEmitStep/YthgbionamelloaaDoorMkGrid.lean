/-
  The marks of the type Grid, which has structs among its fields. By program (mkgen2.py).
-/
import Derived.Test.YthgbionamelloaaDoorTyGrid
import Derived.Test.YthgbionamelloaaDoorMkB
namespace Go.Proofs.YthgbionamelloaaDoor
open Go.RowKit
set_option linter.unusedVariables false

theorem openO_Grid {w : World} {B : Nat} {cs : List Value} {d : shGrid.D} {F : List Nat} (h : Own shGrid w B cs d F) :
    ∃ a2 n2 c2 F2, cs = [.int .i64 (d.1), .int .i64 (d.2.1), .slice a2 n2 c2, .int .i64 (d.2.2.2.1), .int .i64 (d.2.2.2.2.1), .bool (d.2.2.2.2.2.1)] ∧ F = F2 ++ ([]) ∧ Own (.sl .int) w B [.slice a2 n2 c2] d.2.2.1 F2 := by
  obtain ⟨_, _, G0, _, rfl, rfl, h0, _, _, G1, _, rfl, rfl, h1, _, _, G2, _, rfl, rfl, h2, _, _, G3, _, rfl, rfl, h3, _, _, G4, _, rfl, rfl, h4, _, _, G5, _, rfl, rfl, h5, hE⟩ := h
  obtain ⟨rfl, rfl⟩ := h0
  obtain ⟨rfl, rfl⟩ := h1
  obtain ⟨rfl, rfl⟩ := h3
  obtain ⟨rfl, rfl⟩ := h4
  obtain ⟨rfl, rfl⟩ := h5
  obtain ⟨rfl, rfl⟩ := hE
  have g2 := Own.reads (s := (.sl .int)) h2
  obtain ⟨a2, c2, e2, _⟩ := g2
  subst e2
  exact ⟨a2, _, c2, G2, rfl, by simp, h2⟩

theorem cntV_Grid (d : shGrid.D) : shGrid.cntV d = Sh.cnt (.sl .int) d.2.2.1 := by
  show 0 + (0 + (Sh.cnt (.sl .int) d.2.2.1 + (0 + (0 + (0 + (0)))))) = _
  omega

set_option maxRecDepth 100000 in
set_option maxHeartbeats 2000000 in
theorem markGrid_own (cs : List Value) (B k : Nat) (d : shGrid.D) (F : List Nat) (w : World) (ho : Own shGrid w B cs d F) (hnd : F.Nodup) (hk0 : 1 ≤ k) (hk : k + shGrid.cntV d ≤ 1000000000000) :
    Calls Tryd.prog 10 #[.agg cs.toArray, .int .i64 k] w fun e w' => e = .returned (.int .i64 ((k + shGrid.cntV d : Nat) : Int)) ∧ Own shGrid w' B cs (shGrid.mkV d k) F ∧ Touch w w' F := by
  rw [cntV_Grid] at hk ⊢
  obtain ⟨a2, n2, c2, F2, rfl, rfl, o2⟩ := openO_Grid ho
  obtain ⟨x0, e0⟩ : ∃ x : Int, x = d.1 := ⟨_, rfl⟩
  obtain ⟨x1, e1⟩ : ∃ x : Int, x = d.2.1 := ⟨_, rfl⟩
  obtain ⟨x3, e3⟩ : ∃ x : Int, x = d.2.2.2.1 := ⟨_, rfl⟩
  obtain ⟨x4, e4⟩ : ∃ x : Int, x = d.2.2.2.2.1 := ⟨_, rfl⟩
  obtain ⟨x5, e5⟩ : ∃ x : Bool, x = d.2.2.2.2.2.1 := ⟨_, rfl⟩
  obtain ⟨C2, hC2⟩ : ∃ C, C = Sh.cnt (.sl .int) d.2.2.1 := ⟨_, rfl⟩
  rw [← e0, ← e1, ← e3, ← e4, ← e5]
  rw [← hC2] at hk ⊢
  have HST : Hid (x0 = d.1 ∧ x1 = d.2.1 ∧ x3 = d.2.2.2.1 ∧ x4 = d.2.2.2.2.1 ∧ x5 = d.2.2.2.2.2.1 ∧ True) := ⟨e0, e1, e3, e4, e5, trivial⟩
  obtain ⟨k2, hk2⟩ : ∃ k' : Nat, k' = k + C2 := ⟨_, rfl⟩
  have qc2 : Hid (∀ w' : World, Own (.sl .int) w' B [.slice a2 n2 c2] d.2.2.1 F2 → Calls Tryd.prog 27 #[.slice a2 n2 c2, .int .i64 ((k : Int))] w' fun e w'' => e = .returned (.int .i64 (k2 : Int)) ∧ Own (.sl .int) w'' B [.slice a2 n2 c2] (Sh.mk (.sl .int) d.2.2.1 (k)) F2 ∧ Touch w' w'' F2) := fun w' h' => by rw [hk2, hC2]; exact markIntS_own a2 n2 c2 B (k) _ F2 w' h' ((List.nodup_append.1 hnd).1) (by rw [← hC2]; omega)
  have HK2 : Hid (k2 = k + C2) := hk2
  have HC2 : Hid (C2 = Sh.cnt (.sl .int) d.2.2.1) := hC2
  have HND : Hid ((F2 ++ ([])).Nodup) := hnd
  obtain ⟨W0, hW0⟩ : ∃ W0, W0 = w.alloc (.cells #[.int .i64 x0, .int .i64 x1, .slice a2 n2 c2, .int .i64 x3, .int .i64 x4, .bool x5] 29) := ⟨_, rfl⟩
  have bW0 : Below w.heap.size w W0 := by rw [hW0]; exact (Below.refl _ _).alloc (Nat.le_refl _) _
  have hbx : W0.heap[w.heap.size]? = some (.cells #[.int .i64 x0, .int .i64 x1, .slice a2 n2 c2, .int .i64 x3, .int .i64 x4, .bool x5] 29 (0, 0)) := by rw [hW0]; exact heap_alloc_new w _
  have zW0 : W0.heap.size = w.heap.size + 1 := by rw [hW0]; simp
  have HW0 : Hid (W0 = w.alloc (.cells #[.int .i64 x0, .int .i64 x1, .slice a2 n2 c2, .int .i64 x3, .int .i64 x4, .bool x5] 29)) := hW0
  have HBX : Hid (W0.heap[w.heap.size]? = some (.cells #[.int .i64 x0, .int .i64 x1, .slice a2 n2 c2, .int .i64 x3, .int .i64 x4, .bool x5] 29 (0, 0))) := hbx
  have p0_2 := o2.later bW0
  have LT2 : Hid (∀ y ∈ F2, y < w.heap.size) := fun y hy => (o2.lt y hy).2
  have t0 : Touch w W0 (F2 ++ ([])) := Touch.of_below bW0 _
  clear ho hW0 hbx e0 e1 e3 e4 e5 hk2 hC2 o2
  go_enter Tryd.func10, Tryd.ntmps10
  go_wp2_with fail
  rw [← HW0.out]
  refine (qc2.out _ p0_2).mono ?_
  rintro e w2 ⟨rfl, om2, tq2⟩
  have z2 := tq2.size
  have i2 : w2.heap[w.heap.size]? = some (.cells #[.int .i64 x0, .int .i64 x1, .slice a2 n2 c2, .int .i64 x3, .int .i64 x4, .bool x5] 29 (0, 0)) := (tq2.block _ (lt_heap HBX.out) (fun h => by have := LT2.out _ h; omega)).trans HBX.out
  have p2_2 := om2
  have t2 := t0.trans (tq2.mono fun y hy => (List.mem_append_left _ hy : y ∈ F2 ++ ([])))
  have y2_3 : w2.cell? ⟨w.heap.size, 3, none⟩ = some (.int .i64 x3) := box_cell i2 rfl
  have y2_4 : w2.cell? ⟨w.heap.size, 4, none⟩ = some (.int .i64 x4) := box_cell i2 rfl
  have y2_5 : w2.cell? ⟨w.heap.size, 5, none⟩ = some (.bool x5) := box_cell i2 rfl
  have BX2 : Hid (w2.heap[w.heap.size]? = some (.cells #[.int .i64 x0, .int .i64 x1, .slice a2 n2 c2, .int .i64 x3, .int .i64 x4, .bool x5] 29 (0, 0))) := i2
  clear i2
  have HT : Hid ((k2 : Int) = (((k + (C2) : Nat)) : Int)) := by have f2 := HK2.out; show _ = _; omega
  have v2 : Own (.sl .int) w2 B [.slice a2 n2 c2] (Sh.mk (.sl .int) d.2.2.1 (k)) F2 := by
    have hv := p2_2
    exact hv
  have hb : Own shGrid w2 B [.int .i64 (d.1), .int .i64 (d.2.1), .slice a2 n2 c2, .int .i64 (d.2.2.2.1), .int .i64 (d.2.2.2.2.1), .bool (d.2.2.2.2.2.1)] (shGrid.mkV d k) (F2 ++ ([])) := own_Grid (w := w2) (B := B) (d := shGrid.mkV d k) v2
  rw [← HST.out.1, ← HST.out.2.1, ← HST.out.2.2.1, ← HST.out.2.2.2.1, ← HST.out.2.2.2.2.1] at hb
  have HB : Hid (Own shGrid w2 B [.int .i64 x0, .int .i64 x1, .slice a2 n2 c2, .int .i64 x3, .int .i64 x4, .bool x5] (shGrid.mkV d k) (F2 ++ ([]))) := hb
  clear hb v2 p2_2
  go_wp2
  go_ret
  exact ⟨by rw [← HT.out]; rfl, HB.out, t2⟩

end Go.Proofs.YthgbionamelloaaDoor
