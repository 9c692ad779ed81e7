/-
  The program's grid of a sheet.
-/
import Derived.Test.YtojalheohpkdoaaDoorGrH
import Derived.Laws.Rows
import Derived.Laws.Tables
import Derived.Laws.CopyOwn
import Derived.Deep.WholeRow
namespace Go.Proofs.YtojalheohpkdoaaDoor
open Go.RowKit
set_option linter.unusedVariables false
set_option linter.unusedSimpArgs false

theorem own_offR {w : World} {B n g c : Nat} {e : TypeId} {size : Nat} {m : Nat} {xs : List Value} (h : w.ownsRow B e size (.slice (some ⟨g, 0, none⟩) m c) n xs) (b : Nat) (cs : Array Value) (hb : b ≠ g) : (w.setRow b cs).ownsRow B e size (.slice (some ⟨g, 0, none⟩) m c) n xs := by
  refine ⟨h.1, ?_⟩
  rcases h.2 with h1 | ⟨g', cap, cur, hv, hg, hh, r⟩
  · exact .inl h1
  · have hv' := hv
    simp only [Value.slice.injEq, Option.some.injEq, Addr.mk.injEq, and_true] at hv
    exact .inr ⟨g', cap, cur, hv', hg, (setRow_other _ _ _ _ (by omega)).trans hh, r⟩

set_option maxRecDepth 100000 in
set_option maxHeartbeats 4000000 in
theorem grid_any (p g n B : Nat) (W H X Y : Int) (wr : Bool) (zs : List Int) (w : World) (hs : SheetAt w B p g n W H X Y wr zs) (hn : n ≤ 1048576) (hz : ∀ i, i < n → -1000000000 ≤ at0 zs i ∧ at0 zs i ≤ 1000000000) :
    Calls Tryd.prog 53 #[.pointer (some ⟨p, 0, none⟩)] w fun e w' => ∃ k, e = .returned (.agg #[.int .i64 W, .int .i64 H, .slice (some ⟨k, 0, none⟩) n n, .int .i64 X, .int .i64 Y, .bool wr]) ∧ w'.ownsRow w.heap.size 3 1 (.slice (some ⟨k, 0, none⟩) n n) n ((up 32 zs).map (Value.int .i64)) ∧ Below w.heap.size w w' := by
  have hp := box_lt hs.box
  obtain ⟨W1, hW1⟩ : ∃ V, V = (w.alloc (.cells #[.int .i64 0, .int .i64 0, .slice none 0 0, .int .i64 0, .int .i64 0, .bool false] 30)).alloc (.cells #[.int .i64 W, .int .i64 H, .slice (some ⟨g, 0, none⟩) n n, .int .i64 X, .int .i64 Y, .bool wr] 30) := ⟨_, rfl⟩
  have bW1 : Below w.heap.size w W1 := by rw [hW1]; exact ((Below.refl _ _).alloc (Nat.le_refl _) _).alloc (by simp) _
  have hbox : W1.heap[w.heap.size + 1]? = some (.cells #[.int .i64 W, .int .i64 H, .slice (some ⟨g, 0, none⟩) n n, .int .i64 X, .int .i64 Y, .bool wr] 30 (0, 0)) := by
    rw [hW1]
    have := heap_alloc_new (w.alloc (.cells #[.int .i64 0, .int .i64 0, .slice none 0 0, .int .i64 0, .int .i64 0, .bool false] 30)) (.cells #[.int .i64 W, .int .i64 H, .slice (some ⟨g, 0, none⟩) n n, .int .i64 X, .int .i64 Y, .bool wr] 30)
    simpa using this
  have hbox0 : W1.heap[w.heap.size]? = some (.cells #[.int .i64 0, .int .i64 0, .slice none 0 0, .int .i64 0, .int .i64 0, .bool false] 30 (0, 0)) := by
    rw [hW1, heap_alloc_old _ _ (by simp)]; exact heap_alloc_new w _
  have zW1 : W1.heap.size = w.heap.size + 1 + 1 := by rw [hW1]; simp
  have qr : Hid (∀ w', Below w.heap.size w w' → Calls Tryd.prog 57 #[.slice (some ⟨g, 0, none⟩) n n, .int .i64 32] w' fun e w'' => ∃ k, e = .returned (.slice (some ⟨k, 0, none⟩) n n) ∧ w'.heap.size ≤ k ∧ w''.ownsRow w.heap.size 3 1 (.slice (some ⟨k, 0, none⟩) n n) n ((up 32 zs).map (Value.int .i64)) ∧ Below w'.heap.size w' w'') := fun w' h' => raised_ex _ n n w.heap.size zs 32 w' h'.size hs.len ((rdI_own hs.len hs.row).later h') hn hz (by omega) (by omega)
  have y0 : w.cell? ⟨p, 0, none⟩ = some (.int .i64 W) := box_cell hs.box rfl
  have y1 : w.cell? ⟨p, 1, none⟩ = some (.int .i64 H) := box_cell hs.box rfl
  have y2 : w.cell? ⟨p, 2, none⟩ = some (.slice (some ⟨g, 0, none⟩) n n) := box_cell hs.box rfl
  have y3 : w.cell? ⟨p, 3, none⟩ = some (.int .i64 X) := box_cell hs.box rfl
  have y4 : w.cell? ⟨p, 4, none⟩ = some (.int .i64 Y) := box_cell hs.box rfl
  have y5 : w.cell? ⟨p, 5, none⟩ = some (.bool wr) := box_cell hs.box rfl
  have HW : Hid (W1 = _) := hW1
  have HB : Hid (W1.heap[w.heap.size + 1]? = _ ∧ W1.heap[w.heap.size]? = _) := ⟨hbox, hbox0⟩
  clear hW1 hbox hbox0 hs hz
  go_enter Tryd.func53, Tryd.ntmps53
  go_wp2_with fail
  rw [← HW.out]
  refine (qr.out _ bW1).mono ?_
  rintro e w2 ⟨k, rfl, hk, ho, hb2⟩
  have b2 := bW1.trans (hb2.mono bW1.size)
  have z2 := hb2.size
  rw [zW1] at z2 hk
  have i2 : w2.heap[w.heap.size + 1]? = _ := (hb2.block _ (by rw [zW1]; omega)).trans HB.out.1
  have i0 : w2.heap[w.heap.size]? = _ := (hb2.block _ (by rw [zW1]; omega)).trans HB.out.2
  clear y0 y1 y2 y3 y4 y5
  obtain ⟨V, hV⟩ : ∃ V, V = w2.setCell ⟨w.heap.size + 1, 2, none⟩ (.slice (some ⟨k, 0, none⟩) n n) := ⟨_, rfl⟩
  have y2 : w2.cell? ⟨w.heap.size + 1, 2, none⟩ = some (.slice (some ⟨g, 0, none⟩) n n) := box_cell i2 rfl
  have f2 : w2.frozen? ⟨w.heap.size + 1, 2, none⟩ = false := box_frozen i2
  have j1 : V.heap[w.heap.size + 1]? = some (.cells #[.int .i64 W, .int .i64 H, .slice (some ⟨k, 0, none⟩) n n, .int .i64 X, .int .i64 Y, .bool wr] 30 (0, 0)) := by
    rw [hV]; have := box_set (j := 2) (.slice (some ⟨k, 0, none⟩) n n) i2; simpa using this
  have j0 : V.heap[w.heap.size]? = some (.cells #[.int .i64 0, .int .i64 0, .slice none 0 0, .int .i64 0, .int .i64 0, .bool false] 30 (0, 0)) := by rw [hV]; exact (box_other _ (by omega)).trans i0
  have bV : Below w.heap.size w V := by rw [hV]; exact b2.setCell (p := ⟨w.heap.size + 1, 2, none⟩) (by simp) _
  have oV : V.ownsRow w.heap.size 3 1 (.slice (some ⟨k, 0, none⟩) n n) n ((up 32 zs).map (Value.int .i64)) := by rw [hV]; exact own_off ho (w.heap.size + 1) 2 _ (by omega)
  have HV : Hid (V = _) := hV
  clear hV i0 i2 ho hb2 b2
  have j0' := j0
  rw [HV.out] at j0'
  have HLD : (loadVar 30 ⟨w.heap.size, 0, none⟩).run Tryd.prog (V.setRow w.heap.size #[.int .i64 W, .int .i64 H, .slice (some ⟨k, 0, none⟩) n n, .int .i64 X, .int .i64 Y, .bool wr]) = .ok (.agg #[.int .i64 W, .int .i64 H, .slice (some ⟨k, 0, none⟩) n n, .int .i64 X, .int .i64 Y, .bool wr]) (V.setRow w.heap.size #[.int .i64 W, .int .i64 H, .slice (some ⟨k, 0, none⟩) n n, .int .i64 X, .int .i64 Y, .bool wr]) := run_loadVar_row _ _ _ _ _ _ _ (setRow_heap _ _ _ _ _ _ j0) Tryd.underlying30 rfl (by kernel_rfl)
  have HO : Hid (_ ∧ _) := ⟨own_offR oV w.heap.size #[.int .i64 W, .int .i64 H, .slice (some ⟨k, 0, none⟩) n n, .int .i64 X, .int .i64 Y, .bool wr] (by omega), below_setRow bV (Nat.le_refl _) #[.int .i64 W, .int .i64 H, .slice (some ⟨k, 0, none⟩) n n, .int .i64 X, .int .i64 Y, .bool wr]⟩
  rw [HV.out] at HLD HO
  have j1' := j1
  rw [HV.out] at j1'
  have g0 := box_cell (j := 0) j1' rfl
  have g1 := box_cell (j := 1) j1' rfl
  have g2 := box_cell (j := 2) j1' rfl
  have g3 := box_cell (j := 3) j1' rfl
  have g4 := box_cell (j := 4) j1' rfl
  have g5 := box_cell (j := 5) j1' rfl
  clear j1' j0 j1 oV bV
  go_wp2_with (refine wpList_store_row rfl _ _ _ rfl _ _ rfl rfl _ _ j0' (by kernel_rfl) rfl (by simp [Value.oneCell']) ?_)
  (try simp only [Exit.inBlock, Exit.then])
  refine bodyPost_ret (by simp [results, Tryd.results53, asAddr, Act.put, HLD]; try rfl) rfl ?_
  exact ⟨k, rfl, HO.out.1, HO.out.2⟩

end Go.Proofs.YtojalheohpkdoaaDoor
