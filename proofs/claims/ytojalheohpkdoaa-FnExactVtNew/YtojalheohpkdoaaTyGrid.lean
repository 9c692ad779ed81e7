/-
  The type Grid of the laws: its shape, and what szGrid, toGrid, eqGrid and those of its slices do. By program (tygen.py).
-/
import Derived.Test.YtojalheohpkdoaaTyBase
import Derived.Handy
import Derived.Deep.RegionHeld3
import Derived.Test.YtojalheohpkdoaaVI
namespace Go.Proofs.Ytojalheohpkdoaa
open Go.RowKit
set_option linter.unusedVariables false

def shGrid : Sh := Sh.ofL [.int, .int, (.sl .int), .int, .int, .bool]

theorem open_Grid {w : World} {cs : List Value} {d : shGrid.D} (h : Reads shGrid w cs d) :
    ∃ a2 n2 c2, cs = [.int .i64 (d.1), .int .i64 (d.2.1), .slice a2 n2 c2, .int .i64 (d.2.2.2.1), .int .i64 (d.2.2.2.2.1), .bool (d.2.2.2.2.2.1)] ∧ Reads (.sl .int) w [.slice a2 n2 c2] d.2.2.1 := by
  obtain ⟨_, _, rfl, h0, _, _, rfl, h1, _, _, rfl, h2, _, _, rfl, h3, _, _, rfl, h4, _, _, rfl, h5, hE⟩ := h
  have e0 : _ = _ := h0
  have e1 : _ = _ := h1
  have e3 : _ = _ := h3
  have e4 : _ = _ := h4
  have e5 : _ = _ := h5
  have g2 := h2
  obtain ⟨a2, c2, e2, _⟩ := g2
  have eE : _ = _ := hE
  subst e0 e1 e2 e3 e4 e5 eE
  exact ⟨a2, _, c2, rfl, h2⟩

theorem own_Grid {w : World} {B : Nat} {d : shGrid.D} {v2 : Value} {F2 : List Nat} (o2 : Own (.sl .int) w B [v2] d.2.2.1 F2) :
    Own shGrid w B [.int .i64 (d.1), .int .i64 (d.2.1), v2, .int .i64 (d.2.2.2.1), .int .i64 (d.2.2.2.2.1), .bool (d.2.2.2.2.2.1)] d (F2 ++ ([])) := by
  exact ⟨[_], _, [], F2 ++ ([]), rfl, rfl, ⟨rfl, rfl⟩, ⟨[_], _, [], F2 ++ ([]), rfl, rfl, ⟨rfl, rfl⟩, ⟨[_], _, F2, [], rfl, rfl, o2, ⟨[_], _, [], [], rfl, rfl, ⟨rfl, rfl⟩, ⟨[_], _, [], [], rfl, rfl, ⟨rfl, rfl⟩, ⟨[_], _, [], [], rfl, rfl, ⟨rfl, rfl⟩, ⟨rfl, rfl⟩⟩⟩⟩⟩⟩⟩

theorem size_Grid : shGrid.size = 6 := rfl

theorem sz_Grid (d : shGrid.D) : shGrid.sz d = Sh.sz (.sl .int) d.2.2.1 := by
  show 0 + (0 + (Sh.sz (.sl .int) d.2.2.1 + (0 + (0 + (0 + (0)))))) = _
  omega

theorem infoGrid : (Try.prog.info? 24).map (fun i => (i.zero, i.size, i.bytes)) = some (some (.agg #[.int .i64 0, .int .i64 0, .slice none 0 0, .int .i64 0, .int .i64 0, .bool false]), 6, 64) := by kernel_rfl

set_option maxRecDepth 100000 in
set_option maxHeartbeats 1000000 in
theorem eqGrid_any (cs1 cs2 : List Value) (d : shGrid.D) (w : World) (hr : Reads shGrid w cs1 d) (hq : Reads shGrid w cs2 d) (hs : shGrid.sz d ≤ 1048576) :
    Calls Try.prog 11 #[.agg cs1.toArray, .agg cs2.toArray] w fun e w' => e = .returned (.bool true) ∧ Below w.heap.size w w' := by
  obtain ⟨a2, n2, c2, rfl, r2⟩ := open_Grid hr
  obtain ⟨p2, m2, k2, rfl, t2⟩ := open_Grid hq
  obtain ⟨x0, e0⟩ : ∃ x : Int, x = d.1 := ⟨_, rfl⟩
  obtain ⟨x1, e1⟩ : ∃ x : Int, x = d.2.1 := ⟨_, rfl⟩
  obtain ⟨x3, e3⟩ : ∃ x : Int, x = d.2.2.2.1 := ⟨_, rfl⟩
  obtain ⟨x4, e4⟩ : ∃ x : Int, x = d.2.2.2.2.1 := ⟨_, rfl⟩
  obtain ⟨x5, e5⟩ : ∃ x : Bool, x = d.2.2.2.2.2.1 := ⟨_, rfl⟩

  rw [sz_Grid] at hs
  obtain rfl : n2 = m2 := (reads_len r2).1.symm.trans (reads_len t2).1
  have q2 : Hid (∀ w', Below w.heap.size w w' → Calls Try.prog 12 #[.slice a2 n2 c2, .slice p2 n2 k2] w' fun e w'' => e = .returned (.bool true) ∧ Below w'.heap.size w' w'') := fun w' h' => eqIntS_reads a2 p2 n2 c2 k2 _ w' (r2.later h') (t2.later h') (by omega)
  rw [← e0, ← e1, ← e3, ← e4, ← e5]
  have ne0 : (x0 != x0) = false := by simp
  have ne1 : (x1 != x1) = false := by simp
  have ne3 : (x3 != x3) = false := by simp
  have ne4 : (x4 != x4) = false := by simp
  have ne5 : (x5 != x5) = false := by simp
  clear hr hq hs r2 t2 e0 e1 e3 e4 e5
  obtain ⟨W0, hW0⟩ : ∃ W0, W0 = (w.alloc (.cells #[.int .i64 x0, .int .i64 x1, .slice a2 n2 c2, .int .i64 x3, .int .i64 x4, .bool x5] 24)).alloc (.cells #[.int .i64 x0, .int .i64 x1, .slice p2 n2 k2, .int .i64 x3, .int .i64 x4, .bool x5] 24) := ⟨_, rfl⟩
  have bW0 : Below w.heap.size w W0 := by rw [hW0]; exact ((Below.refl _ _).alloc (Nat.le_refl _) _).alloc (by simp) _
  have hA : W0.heap[w.heap.size]? = some (.cells #[.int .i64 x0, .int .i64 x1, .slice a2 n2 c2, .int .i64 x3, .int .i64 x4, .bool x5] 24 (0, 0)) := by rw [hW0, heap_alloc_old _ _ (by simp)]; exact heap_alloc_new w _
  have hB : W0.heap[w.heap.size + 1]? = some (.cells #[.int .i64 x0, .int .i64 x1, .slice p2 n2 k2, .int .i64 x3, .int .i64 x4, .bool x5] 24 (0, 0)) := by rw [hW0]; exact (by have := heap_alloc_new (w.alloc (.cells #[.int .i64 x0, .int .i64 x1, .slice a2 n2 c2, .int .i64 x3, .int .i64 x4, .bool x5] 24)) (.cells #[.int .i64 x0, .int .i64 x1, .slice p2 n2 k2, .int .i64 x3, .int .i64 x4, .bool x5] 24); simpa using this)
  have zW0 : W0.heap.size = w.heap.size + 1 + 1 := by rw [hW0]; simp
  have HW0 : Hid (W0 = _) := hW0
  have HAB : Hid (W0.heap[w.heap.size]? = some (.cells #[.int .i64 x0, .int .i64 x1, .slice a2 n2 c2, .int .i64 x3, .int .i64 x4, .bool x5] 24 (0, 0)) ∧ W0.heap[w.heap.size + 1]? = some (.cells #[.int .i64 x0, .int .i64 x1, .slice p2 n2 k2, .int .i64 x3, .int .i64 x4, .bool x5] 24 (0, 0))) := ⟨hA, hB⟩
  clear hW0 hA hB
  go_enter Try.func11, Try.ntmps11
  go_wp2_with fail
  rw [← HW0.out]
  refine (q2.out _ bW0).mono ?_
  rintro e w2 ⟨rfl, hb2⟩
  have b2 := bW0.trans (hb2.mono bW0.size)
  have z2 := hb2.size
  have iA : w2.heap[w.heap.size]? = some (.cells #[.int .i64 x0, .int .i64 x1, .slice a2 n2 c2, .int .i64 x3, .int .i64 x4, .bool x5] 24 (0, 0)) := (hb2.block _ (by omega)).trans HAB.out.1
  have iB : w2.heap[w.heap.size + 1]? = some (.cells #[.int .i64 x0, .int .i64 x1, .slice p2 n2 k2, .int .i64 x3, .int .i64 x4, .bool x5] 24 (0, 0)) := (hb2.block _ (by omega)).trans HAB.out.2
  have ya2_3 : w2.cell? ⟨w.heap.size, 3, none⟩ = some (.int .i64 x3) := box_cell iA rfl
  have yb2_3 : w2.cell? ⟨w.heap.size + 1, 3, none⟩ = some (.int .i64 x3) := box_cell iB rfl
  have ya2_4 : w2.cell? ⟨w.heap.size, 4, none⟩ = some (.int .i64 x4) := box_cell iA rfl
  have yb2_4 : w2.cell? ⟨w.heap.size + 1, 4, none⟩ = some (.int .i64 x4) := box_cell iB rfl
  have ya2_5 : w2.cell? ⟨w.heap.size, 5, none⟩ = some (.bool x5) := box_cell iA rfl
  have yb2_5 : w2.cell? ⟨w.heap.size + 1, 5, none⟩ = some (.bool x5) := box_cell iB rfl
  have I2 : Hid (w2.heap[w.heap.size]? = some (.cells #[.int .i64 x0, .int .i64 x1, .slice a2 n2 c2, .int .i64 x3, .int .i64 x4, .bool x5] 24 (0, 0)) ∧ w2.heap[w.heap.size + 1]? = some (.cells #[.int .i64 x0, .int .i64 x1, .slice p2 n2 k2, .int .i64 x3, .int .i64 x4, .bool x5] 24 (0, 0))) := ⟨iA, iB⟩
  clear iA iB hb2
  go_wp2
  go_ret
  exact ⟨rfl, b2⟩

end Go.Proofs.Ytojalheohpkdoaa
