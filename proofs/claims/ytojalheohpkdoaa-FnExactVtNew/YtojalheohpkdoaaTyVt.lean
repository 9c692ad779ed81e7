/-
  The type Vt of the laws, which has structs among its fields: its shape, and what szVt, toVt, eqVt do. By program (tygen2.py).
-/
import Derived.Test.YtojalheohpkdoaaTyBase
import Derived.Handy
import Derived.Deep.RegionHeld3
import Derived.Test.YtojalheohpkdoaaTyGrid
namespace Go.Proofs.Ytojalheohpkdoaa
open Go.RowKit
set_option linter.unusedVariables false

def shVt : Sh := Sh.ofL [shGrid, .int, (.sl .int), (.sl .u8), .int]

theorem open_Vt {w : World} {cs : List Value} {d : shVt.D} (h : Reads shVt w cs d) :
    ∃ a2 n2 c2 a7 n7 c7 a8 n8 c8, cs = [.int .i64 (d.1.1), .int .i64 (d.1.2.1), .slice a2 n2 c2, .int .i64 (d.1.2.2.2.1), .int .i64 (d.1.2.2.2.2.1), .bool (d.1.2.2.2.2.2.1), .int .i64 (d.2.1), .slice a7 n7 c7, .slice a8 n8 c8, .int .i64 (d.2.2.2.2.1)] ∧ Reads shGrid w [.int .i64 (d.1.1), .int .i64 (d.1.2.1), .slice a2 n2 c2, .int .i64 (d.1.2.2.2.1), .int .i64 (d.1.2.2.2.2.1), .bool (d.1.2.2.2.2.2.1)] d.1 ∧ Reads (.sl .int) w [.slice a7 n7 c7] d.2.2.1 ∧ Reads (.sl .u8) w [.slice a8 n8 c8] d.2.2.2.1 := by
  obtain ⟨_, _, rfl, h0, _, _, rfl, h1, _, _, rfl, h2, _, _, rfl, h3, _, _, rfl, h4, hE⟩ := h
  have g0 := h0
  obtain ⟨a2, n2, c2, e0, _⟩ := open_Grid g0
  have e1 : _ = _ := h1
  have g2 := h2
  obtain ⟨a7, c7, e2, _⟩ := g2
  have g3 := h3
  obtain ⟨a8, c8, e3, _⟩ := g3
  have e4 : _ = _ := h4
  have eE : _ = _ := hE
  subst e0 e1 e2 e3 e4 eE
  exact ⟨a2, n2, c2, a7, _, c7, a8, _, c8, rfl, h0, h2, h3⟩

theorem own_Vt {w : World} {B : Nat} {d : shVt.D} {v2 : Value} {F0 : List Nat} {v7 : Value} {F2 : List Nat} {v8 : Value} {F3 : List Nat} (o0 : Own shGrid w B [.int .i64 (d.1.1), .int .i64 (d.1.2.1), v2, .int .i64 (d.1.2.2.2.1), .int .i64 (d.1.2.2.2.2.1), .bool (d.1.2.2.2.2.2.1)] d.1 F0) (o2 : Own (.sl .int) w B [v7] d.2.2.1 F2) (o3 : Own (.sl .u8) w B [v8] d.2.2.2.1 F3) :
    Own shVt w B [.int .i64 (d.1.1), .int .i64 (d.1.2.1), v2, .int .i64 (d.1.2.2.2.1), .int .i64 (d.1.2.2.2.2.1), .bool (d.1.2.2.2.2.2.1), .int .i64 (d.2.1), v7, v8, .int .i64 (d.2.2.2.2.1)] d (F0 ++ (F2 ++ (F3 ++ ([])))) := by
  exact ⟨[_, _, _, _, _, _], _, F0, F2 ++ (F3 ++ ([])), rfl, rfl, o0, ⟨[_], _, [], F2 ++ (F3 ++ ([])), rfl, rfl, ⟨rfl, rfl⟩, ⟨[_], _, F2, F3 ++ ([]), rfl, rfl, o2, ⟨[_], _, F3, [], rfl, rfl, o3, ⟨[_], _, [], [], rfl, rfl, ⟨rfl, rfl⟩, ⟨rfl, rfl⟩⟩⟩⟩⟩⟩

theorem size_Vt : shVt.size = 10 := rfl

theorem sz_Vt (d : shVt.D) : shVt.sz d = Sh.sz shGrid d.1 + Sh.sz (.sl .int) d.2.2.1 + Sh.sz (.sl .u8) d.2.2.2.1 := by
  show Sh.sz shGrid d.1 + (0 + (Sh.sz (.sl .int) d.2.2.1 + (Sh.sz (.sl .u8) d.2.2.2.1 + (0 + (0))))) = _
  omega

set_option maxRecDepth 100000 in
set_option maxHeartbeats 4000000 in
theorem eqVt_any (cs1 cs2 : List Value) (d : shVt.D) (w : World) (hr : Reads shVt w cs1 d) (hq : Reads shVt w cs2 d) (hs : shVt.sz d ≤ 1048576) :
    Calls Try.prog 6 #[.agg cs1.toArray, .agg cs2.toArray] w fun e w' => e = .returned (.bool true) ∧ Below w.heap.size w w' := by
  obtain ⟨a2, n2, c2, a7, n7, c7, a8, n8, c8, rfl, r0, r2, r3⟩ := open_Vt hr
  obtain ⟨p2, m2, k2, p7, m7, k7, p8, m8, k8, rfl, t0, t2, t3⟩ := open_Vt hq
  obtain ⟨x0, e0⟩ : ∃ x : Int, x = d.1.1 := ⟨_, rfl⟩
  obtain ⟨x1, e1⟩ : ∃ x : Int, x = d.1.2.1 := ⟨_, rfl⟩
  obtain ⟨x3, e3⟩ : ∃ x : Int, x = d.1.2.2.2.1 := ⟨_, rfl⟩
  obtain ⟨x4, e4⟩ : ∃ x : Int, x = d.1.2.2.2.2.1 := ⟨_, rfl⟩
  obtain ⟨x5, e5⟩ : ∃ x : Bool, x = d.1.2.2.2.2.2.1 := ⟨_, rfl⟩
  obtain ⟨x6, e6⟩ : ∃ x : Int, x = d.2.1 := ⟨_, rfl⟩
  obtain ⟨x9, e9⟩ : ∃ x : Int, x = d.2.2.2.2.1 := ⟨_, rfl⟩
  rw [sz_Vt] at hs
  have q0 : Hid (∀ w', Below w.heap.size w w' → Calls Try.prog 11 #[.agg #[.int .i64 x0, .int .i64 x1, .slice a2 n2 c2, .int .i64 x3, .int .i64 x4, .bool x5], .agg #[.int .i64 x0, .int .i64 x1, .slice p2 m2 k2, .int .i64 x3, .int .i64 x4, .bool x5]] w' fun e w'' => e = .returned (.bool true) ∧ Below w'.heap.size w' w'') := fun w' h' => by rw [e0, e1, e3, e4, e5]; exact eqGrid_any _ _ _ w' (r0.later h') (t0.later h') (by show Sh.sz shGrid _ ≤ _; omega)
  obtain rfl : n7 = m7 := (reads_len r2).1.symm.trans (reads_len t2).1
  have q2 : Hid (∀ w', Below w.heap.size w w' → Calls Try.prog 12 #[.slice a7 n7 c7, .slice p7 n7 k7] w' fun e w'' => e = .returned (.bool true) ∧ Below w'.heap.size w' w'') := fun w' h' => eqIntS_reads a7 p7 n7 c7 k7 _ w' (r2.later h') (t2.later h') (by omega)
  obtain rfl : n8 = m8 := (reads_len r3).1.symm.trans (reads_len t3).1
  have q3 : Hid (∀ w', Below w.heap.size w w' → Calls Try.prog 13 #[.slice a8 n8 c8, .slice p8 n8 k8] w' fun e w'' => e = .returned (.bool true) ∧ Below w'.heap.size w' w'') := fun w' h' => eqByteS_reads a8 p8 n8 c8 k8 _ w' (r3.later h') (t3.later h') (by omega)
  rw [← e0, ← e1, ← e3, ← e4, ← e5, ← e6, ← e9]
  have ne6 : (x6 != x6) = false := by simp
  have ne9 : (x9 != x9) = false := by simp
  clear hr hq hs r0 t0 r2 t2 r3 t3 e0 e1 e3 e4 e5 e6 e9
  obtain ⟨W0, hW0⟩ : ∃ W0, W0 = (w.alloc (.cells #[.int .i64 x0, .int .i64 x1, .slice a2 n2 c2, .int .i64 x3, .int .i64 x4, .bool x5, .int .i64 x6, .slice a7 n7 c7, .slice a8 n8 c8, .int .i64 x9] 27)).alloc (.cells #[.int .i64 x0, .int .i64 x1, .slice p2 m2 k2, .int .i64 x3, .int .i64 x4, .bool x5, .int .i64 x6, .slice p7 n7 k7, .slice p8 n8 k8, .int .i64 x9] 27) := ⟨_, rfl⟩
  have bW0 : Below w.heap.size w W0 := by rw [hW0]; exact ((Below.refl _ _).alloc (Nat.le_refl _) _).alloc (by simp) _
  have hA : W0.heap[w.heap.size]? = some (.cells #[.int .i64 x0, .int .i64 x1, .slice a2 n2 c2, .int .i64 x3, .int .i64 x4, .bool x5, .int .i64 x6, .slice a7 n7 c7, .slice a8 n8 c8, .int .i64 x9] 27 (0, 0)) := by rw [hW0, heap_alloc_old _ _ (by simp)]; exact heap_alloc_new w _
  have hB : W0.heap[w.heap.size + 1]? = some (.cells #[.int .i64 x0, .int .i64 x1, .slice p2 m2 k2, .int .i64 x3, .int .i64 x4, .bool x5, .int .i64 x6, .slice p7 n7 k7, .slice p8 n8 k8, .int .i64 x9] 27 (0, 0)) := by rw [hW0]; exact (by have := heap_alloc_new (w.alloc (.cells #[.int .i64 x0, .int .i64 x1, .slice a2 n2 c2, .int .i64 x3, .int .i64 x4, .bool x5, .int .i64 x6, .slice a7 n7 c7, .slice a8 n8 c8, .int .i64 x9] 27)) (.cells #[.int .i64 x0, .int .i64 x1, .slice p2 m2 k2, .int .i64 x3, .int .i64 x4, .bool x5, .int .i64 x6, .slice p7 n7 k7, .slice p8 n8 k8, .int .i64 x9] 27); simpa using this)
  have zW0 : W0.heap.size = w.heap.size + 1 + 1 := by rw [hW0]; simp
  have HW0 : Hid (W0 = _) := hW0
  have HAB : Hid (_ ∧ _) := ⟨hA, hB⟩
  clear hW0 hA hB
  go_enter Try.func6, Try.ntmps6
  go_wp2_with fail
  rw [← HW0.out]
  refine (q0.out _ bW0).mono ?_
  rintro e w0 ⟨rfl, hb0⟩
  have b0 := bW0.trans (hb0.mono bW0.size)
  have z0 := hb0.size
  have iA : w0.heap[w.heap.size]? = some (.cells #[.int .i64 x0, .int .i64 x1, .slice a2 n2 c2, .int .i64 x3, .int .i64 x4, .bool x5, .int .i64 x6, .slice a7 n7 c7, .slice a8 n8 c8, .int .i64 x9] 27 (0, 0)) := (hb0.block _ (by omega)).trans HAB.out.1
  have iB : w0.heap[w.heap.size + 1]? = some (.cells #[.int .i64 x0, .int .i64 x1, .slice p2 m2 k2, .int .i64 x3, .int .i64 x4, .bool x5, .int .i64 x6, .slice p7 n7 k7, .slice p8 n8 k8, .int .i64 x9] 27 (0, 0)) := (hb0.block _ (by omega)).trans HAB.out.2
  have ya0_6 : w0.cell? ⟨w.heap.size, 6, none⟩ = some (.int .i64 x6) := box_cell iA rfl
  have yb0_6 : w0.cell? ⟨w.heap.size + 1, 6, none⟩ = some (.int .i64 x6) := box_cell iB rfl
  have ya0_7 : w0.cell? ⟨w.heap.size, 7, none⟩ = some (.slice a7 n7 c7) := box_cell iA rfl
  have yb0_7 : w0.cell? ⟨w.heap.size + 1, 7, none⟩ = some (.slice p7 n7 k7) := box_cell iB rfl
  have ya0_8 : w0.cell? ⟨w.heap.size, 8, none⟩ = some (.slice a8 n8 c8) := box_cell iA rfl
  have yb0_8 : w0.cell? ⟨w.heap.size + 1, 8, none⟩ = some (.slice p8 n8 k8) := box_cell iB rfl
  have ya0_9 : w0.cell? ⟨w.heap.size, 9, none⟩ = some (.int .i64 x9) := box_cell iA rfl
  have yb0_9 : w0.cell? ⟨w.heap.size + 1, 9, none⟩ = some (.int .i64 x9) := box_cell iB rfl
  have I0 : Hid (_ ∧ _) := ⟨iA, iB⟩
  clear iA iB hb0
  go_wp2_with fail
  refine (q2.out _ b0).mono ?_
  rintro e w2 ⟨rfl, hb2⟩
  have b2 := b0.trans (hb2.mono b0.size)
  have z2 := hb2.size
  have iA : w2.heap[w.heap.size]? = some (.cells #[.int .i64 x0, .int .i64 x1, .slice a2 n2 c2, .int .i64 x3, .int .i64 x4, .bool x5, .int .i64 x6, .slice a7 n7 c7, .slice a8 n8 c8, .int .i64 x9] 27 (0, 0)) := (hb2.block _ (by omega)).trans I0.out.1
  have iB : w2.heap[w.heap.size + 1]? = some (.cells #[.int .i64 x0, .int .i64 x1, .slice p2 m2 k2, .int .i64 x3, .int .i64 x4, .bool x5, .int .i64 x6, .slice p7 n7 k7, .slice p8 n8 k8, .int .i64 x9] 27 (0, 0)) := (hb2.block _ (by omega)).trans I0.out.2
  have ya2_8 : w2.cell? ⟨w.heap.size, 8, none⟩ = some (.slice a8 n8 c8) := box_cell iA rfl
  have yb2_8 : w2.cell? ⟨w.heap.size + 1, 8, none⟩ = some (.slice p8 n8 k8) := box_cell iB rfl
  have ya2_9 : w2.cell? ⟨w.heap.size, 9, none⟩ = some (.int .i64 x9) := box_cell iA rfl
  have yb2_9 : w2.cell? ⟨w.heap.size + 1, 9, none⟩ = some (.int .i64 x9) := box_cell iB rfl
  have I2 : Hid (_ ∧ _) := ⟨iA, iB⟩
  clear iA iB hb2
  go_wp2_with fail
  refine (q3.out _ b2).mono ?_
  rintro e w3 ⟨rfl, hb3⟩
  have b3 := b2.trans (hb3.mono b2.size)
  have z3 := hb3.size
  have iA : w3.heap[w.heap.size]? = some (.cells #[.int .i64 x0, .int .i64 x1, .slice a2 n2 c2, .int .i64 x3, .int .i64 x4, .bool x5, .int .i64 x6, .slice a7 n7 c7, .slice a8 n8 c8, .int .i64 x9] 27 (0, 0)) := (hb3.block _ (by omega)).trans I2.out.1
  have iB : w3.heap[w.heap.size + 1]? = some (.cells #[.int .i64 x0, .int .i64 x1, .slice p2 m2 k2, .int .i64 x3, .int .i64 x4, .bool x5, .int .i64 x6, .slice p7 n7 k7, .slice p8 n8 k8, .int .i64 x9] 27 (0, 0)) := (hb3.block _ (by omega)).trans I2.out.2
  have ya3_9 : w3.cell? ⟨w.heap.size, 9, none⟩ = some (.int .i64 x9) := box_cell iA rfl
  have yb3_9 : w3.cell? ⟨w.heap.size + 1, 9, none⟩ = some (.int .i64 x9) := box_cell iB rfl
  have I3 : Hid (_ ∧ _) := ⟨iA, iB⟩
  clear iA iB hb3
  go_wp2
  go_ret
  exact ⟨rfl, b3⟩

end Go.Proofs.Ytojalheohpkdoaa
