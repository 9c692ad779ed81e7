/-
  FrameRead of the program: what readFrame gives up with becomes the code.
-/
import Derived.Test.YtbjmjmammpgbmaaCatchI
import Derived.Test.YtbjmjmammpgbmaaOwnM
import Derived.Test.YtbjmjmammpgbmaaMk
namespace Go.Proofs.Ytbjmjmammpgbmaa
open Go.RowKit
set_option linter.unusedVariables false
set_option linter.unusedSimpArgs false

set_option maxRecDepth 100000 in
set_option maxHeartbeats 2000000 in
theorem implRf_pan (x : Value) (p k : Int) (w : World) (h : ∀ w', Below w.heap.size w w' → Calls Try.prog 34 #[x, .int .i64 p] w' fun e w'' => e = .panicked [{ v := .iface 55 (.int .i64 k), recovered := false }] ∧ Below w'.heap.size w' w'') :
    Calls Try.prog 15 #[x, .int .i64 p] w fun e w' => e = .returned (.tuple #[.agg #[.int .i64 0, .string ⟨#[]⟩], .int .i64 0, .int .i64 k]) ∧ Below w.heap.size w w' := by
  have hmf : ∀ (fn : Fn) (first cap : Array Value) (w : World), (Instr.makeFunc fn first cap).run Try.prog w = .ok (.func fn first cap) w := fun _ _ _ _ => rfl
  have q : Hid (∀ w', Below w.heap.size w w' → Calls Try.prog 34 #[x, .int .i64 p] w' fun e w'' => e = .panicked [{ v := .iface 55 (.int .i64 k), recovered := false }] ∧ Below w'.heap.size w' w'') := h
  clear h
  obtain ⟨W, hW⟩ : ∃ W, W = (w.alloc (.cells #[.int .i64 0, .string ⟨#[]⟩] 33)).alloc (.cells #[.int .i64 0] 3) := ⟨_, rfl⟩
  have bW : Below w.heap.size w W := by rw [hW]; exact ((Below.refl _ _).alloc (Nat.le_refl _) _).alloc (by simp) _
  have hA : W.heap[w.heap.size]? = some (.cells #[.int .i64 0, .string ⟨#[]⟩] 33 (0, 0)) := by rw [hW]; exact (heap_alloc_old _ _ (by simp)).trans (heap_alloc_new w _)
  have hB : W.heap[w.heap.size + 1]? = some (.cells #[.int .i64 0] 3 (0, 0)) := by
    have h9 := heap_alloc_new (w.alloc (.cells #[.int .i64 0, .string ⟨#[]⟩] 33)) (.cells #[.int .i64 0] 3)
    rw [hW]; simpa using h9
  have HW : Hid (W = (w.alloc (.cells #[.int .i64 0, .string ⟨#[]⟩] 33)).alloc (.cells #[.int .i64 0] 3)) := hW
  have zA : w.heap.size < W.heap.size := lt_heap hA
  have zB : w.heap.size + 1 < W.heap.size := lt_heap hB
  clear hW
  go_enter_defers Try.func15, Try.ntmps15
  go_wp2_with fail
  rw [← HW.out]
  refine (q.out _ bW).mono ?_
  rintro e w1 ⟨rfl, hb1⟩
  have b1 := bW.trans (hb1.mono bW.size)
  have hA1 := (hb1.block _ zA).trans hA
  have hB1 := (hb1.block _ zB).trans hB
  have hne : ¬ w.heap.size = w.heap.size + 1 := by omega
  have hA2 := (box_other (w := w1) (b := w.heap.size + 1) (j := 0) (.int .i64 k) (k := w.heap.size) (by omega)).trans hA1
  have hB2 := box_set (w := w1) (j := 0) (.int .i64 k) hB1
  have e0 : (w1.setCell ⟨w.heap.size + 1, 0, none⟩ (.int .i64 k)).cell? ⟨w.heap.size, 0, none⟩ = some (.int .i64 0) := box_cell hA2 rfl
  have e1 : (w1.setCell ⟨w.heap.size + 1, 0, none⟩ (.int .i64 k)).cell? ⟨w.heap.size, 1, none⟩ = some (.string ⟨#[]⟩) := box_cell hA2 rfl
  have e2 : (w1.setCell ⟨w.heap.size + 1, 0, none⟩ (.int .i64 k)).cell? ⟨w.heap.size + 1, 0, none⟩ = some (.int .i64 k) := box_cell hB2 rfl
  have bE : Below w.heap.size w (w1.setCell ⟨w.heap.size + 1, 0, none⟩ (.int .i64 k)) := b1.setCell (by show w.heap.size ≤ w.heap.size + 1; omega) _
  go_wp2_with fail
  refine leaves_cons (f := 33) (args := #[.pointer (some ⟨w.heap.size + 1, 0, none⟩)]) (by simp) (by simp [go_sem]) ?_
  refine (catch_panicking ⟨w.heap.size + 1, 0, none⟩ 0 k [] _ (box_cell hB1 rfl) (box_frozen hB1)).mono ?_
  rintro e u' w'' ⟨rfl, rfl, rfl⟩
  simp [Leaves, settle, results, Try.results15, go_sem, e0, e1, e2]
  exact bE

set_option maxRecDepth 100000 in
set_option maxHeartbeats 2000000 in
theorem implRf_ret (x : Value) (p x0 : Int) (x1 : ByteArray) (nx : Int) (w : World) (h : ∀ w', Below w.heap.size w w' → Calls Try.prog 34 #[x, .int .i64 p] w' fun e w'' => e = .returned (.tuple #[.agg #[.int .i64 x0, .string x1], .int .i64 nx]) ∧ Below w'.heap.size w' w'') :
    Calls Try.prog 15 #[x, .int .i64 p] w fun e w' => e = .returned (.tuple #[.agg #[.int .i64 x0, .string x1], .int .i64 nx, .int .i64 0]) ∧ Below w.heap.size w w' := by
  have hmf : ∀ (fn : Fn) (first cap : Array Value) (w : World), (Instr.makeFunc fn first cap).run Try.prog w = .ok (.func fn first cap) w := fun _ _ _ _ => rfl
  have q : Hid (∀ w', Below w.heap.size w w' → Calls Try.prog 34 #[x, .int .i64 p] w' fun e w'' => e = .returned (.tuple #[.agg #[.int .i64 x0, .string x1], .int .i64 nx]) ∧ Below w'.heap.size w' w'') := h
  clear h
  obtain ⟨W, hW⟩ : ∃ W, W = (w.alloc (.cells #[.int .i64 0, .string ⟨#[]⟩] 33)).alloc (.cells #[.int .i64 0] 3) := ⟨_, rfl⟩
  have bW : Below w.heap.size w W := by rw [hW]; exact ((Below.refl _ _).alloc (Nat.le_refl _) _).alloc (by simp) _
  have hA : W.heap[w.heap.size]? = some (.cells #[.int .i64 0, .string ⟨#[]⟩] 33 (0, 0)) := by rw [hW]; exact (heap_alloc_old _ _ (by simp)).trans (heap_alloc_new w _)
  have hB : W.heap[w.heap.size + 1]? = some (.cells #[.int .i64 0] 3 (0, 0)) := by
    have h9 := heap_alloc_new (w.alloc (.cells #[.int .i64 0, .string ⟨#[]⟩] 33)) (.cells #[.int .i64 0] 3)
    rw [hW]; simpa using h9
  have HW : Hid (W = (w.alloc (.cells #[.int .i64 0, .string ⟨#[]⟩] 33)).alloc (.cells #[.int .i64 0] 3)) := hW
  have zA : w.heap.size < W.heap.size := lt_heap hA
  have zB : w.heap.size + 1 < W.heap.size := lt_heap hB
  clear hW
  go_enter_defers Try.func15, Try.ntmps15
  go_wp2_with fail
  rw [← HW.out]
  refine (q.out _ bW).mono ?_
  rintro e w1 ⟨rfl, hb1⟩
  have b1 := bW.trans (hb1.mono bW.size)
  have hA1 := (hb1.block _ zA).trans hA
  have hB1 := (hb1.block _ zB).trans hB
  have u0 : w1.cell? ⟨w.heap.size, 0, none⟩ = some (.int .i64 0) := box_cell hA1 rfl
  have u1 : w1.cell? ⟨w.heap.size, 1, none⟩ = some (.string ⟨#[]⟩) := box_cell hA1 rfl
  have f0 : w1.frozen? ⟨w.heap.size, 0, none⟩ = false := box_frozen hA1
  have f1 : w1.frozen? ⟨w.heap.size, 1, none⟩ = false := box_frozen hA1
  have u2 : w1.cell? ⟨w.heap.size + 1, 0, none⟩ = some (.int .i64 0) := box_cell hB1 rfl
  have f2 : w1.frozen? ⟨w.heap.size + 1, 0, none⟩ = false := box_frozen hB1
  have s1 := box_set (w := w1) (j := 0) (.int .i64 x0) hA1
  have s2 := box_set (j := 1) (.string x1) s1
  have s3 := box_set (j := 0) (.int .i64 x0) s2
  have s4 := box_set (j := 1) (.string x1) s3
  have s5 := (box_other (b := w.heap.size + 1) (j := 0) (.int .i64 0) (k := w.heap.size) (by omega)).trans s4
  have o1 := (box_other (w := w1) (b := w.heap.size) (j := 0) (.int .i64 x0) (k := w.heap.size + 1) (by omega)).trans hB1
  have o2 := (box_other (b := w.heap.size) (j := 1) (.string x1) (k := w.heap.size + 1) (by omega)).trans o1
  have o3 := (box_other (b := w.heap.size) (j := 0) (.int .i64 x0) (k := w.heap.size + 1) (by omega)).trans o2
  have o4 := (box_other (b := w.heap.size) (j := 1) (.string x1) (k := w.heap.size + 1) (by omega)).trans o3
  have o5 := box_set (j := 0) (.int .i64 0) o4
  have bE : Below w.heap.size w (((((w1.setCell ⟨w.heap.size, 0, none⟩ (.int .i64 x0)).setCell ⟨w.heap.size, 1, none⟩ (.string x1)).setCell ⟨w.heap.size, 0, none⟩ (.int .i64 x0)).setCell ⟨w.heap.size, 1, none⟩ (.string x1)).setCell ⟨w.heap.size + 1, 0, none⟩ (.int .i64 0)) :=
    ((((b1.setCell (Nat.le_refl _) _).setCell (Nat.le_refl _) _).setCell (Nat.le_refl _) _).setCell (Nat.le_refl _) _).setCell (by show w.heap.size ≤ w.heap.size + 1; omega) _
  have E1 : Hid _ := s5
  have E2 : Hid _ := o5
  have BE : Hid (Below w.heap.size w (((((w1.setCell ⟨w.heap.size, 0, none⟩ (.int .i64 x0)).setCell ⟨w.heap.size, 1, none⟩ (.string x1)).setCell ⟨w.heap.size, 0, none⟩ (.int .i64 x0)).setCell ⟨w.heap.size, 1, none⟩ (.string x1)).setCell ⟨w.heap.size + 1, 0, none⟩ (.int .i64 0))) := bE
  clear s1 s2 s3 s4 s5 o1 o2 o3 o4 o5 bE
  go_wp2
  refine leaves_cons (f := 33) (args := #[.pointer (some ⟨w.heap.size + 1, 0, none⟩)]) (by simp) (by simp [go_sem]) ?_
  refine (catch_idle ⟨w.heap.size + 1, 0, none⟩ _).mono ?_
  rintro e u' w'' ⟨rfl, rfl, hw''⟩
  rw [hw'']
  obtain ⟨WE, hWE⟩ : ∃ WE, WE = ((((w1.setCell ⟨w.heap.size, 0, none⟩ (.int .i64 x0)).setCell ⟨w.heap.size, 1, none⟩ (.string x1)).setCell ⟨w.heap.size, 0, none⟩ (.int .i64 x0)).setCell ⟨w.heap.size, 1, none⟩ (.string x1)).setCell ⟨w.heap.size + 1, 0, none⟩ (.int .i64 0) := ⟨_, rfl⟩
  have k1 := E1.out
  have k2 := E2.out
  have k3 := BE.out
  rw [← hWE] at k1 k2 k3 ⊢
  have c0 : WE.cell? ⟨w.heap.size, 0, none⟩ = some (.int .i64 x0) := box_cell k1 rfl
  have c1 : WE.cell? ⟨w.heap.size, 1, none⟩ = some (.string x1) := box_cell k1 rfl
  have c2 : WE.cell? ⟨w.heap.size + 1, 0, none⟩ = some (.int .i64 0) := box_cell k2 rfl
  simp [Leaves, settle, results, Try.results15, go_sem, c0, c1, c2]
  exact k3

end Go.Proofs.Ytbjmjmammpgbmaa
