/-
  DiskRoom and DiskFuse of the model and of the program.
-/
import Derived.Test.YtmhlligmehbehabCopyI
import Derived.Test.YtmhlligmehbehabDOkE
namespace Go.Proofs.Ytmhlligmehbehab
open Go.RowKit
set_option linter.unusedVariables false

/-- A disk with another Room, with another Fuse. -/
def roomD (d : shDisk.D) (r : Int) : shDisk.D := (r, d.2)
def fuseD (d : shDisk.D) (r : Int) : shDisk.D := (d.1, r, d.2.2)

theorem specOkB_ok (cs : List Value) (d : shDisk.D) (w : World) (hr : Reads shDisk w cs d) (hs : shDisk.sz d ≤ 1048576) :
    Calls Try.prog 17 #[.agg cs.toArray] w fun e w' => e = .returned (.bool (implOkB d)) ∧ Below w.heap.size w w' :=
  specOk_ok (implOkB d) cs d w (fun h => (ok_same d).1 h) (fun h => by
    cases hb : implOkB d with
    | false => rfl
    | true => exact absurd ((ok_same d).2 hb) h) hr hs

set_option maxRecDepth 100000 in
set_option maxHeartbeats 4000000 in
theorem copyRight_false (cs : List Value) (d : shDisk.D) (B0 : Nat) (G : List Nat) (w : World) (ho : Own shDisk w B0 cs d G) (hs : shDisk.sz d ≤ 1048576) (hok : implOkB d = false) :
    Calls Try.prog 23 #[.agg cs.toArray] w fun e w' => e = .returned (.tuple #[.agg #[.int .i64 0, .int .i64 0, .int .i64 0, .slice none 0 0, .slice none 0 0, .slice none 0 0], .bool false]) ∧ Below w.heap.size w w' := by
  obtain ⟨a3, n3, c3, F3, a4, n4, c4, F4, a5, n5, c5, F5, rfl, _, o3, o4, o5⟩ := openO_Disk ho
  obtain ⟨x0, e0⟩ : ∃ x : Int, x = d.1 := ⟨_, rfl⟩
  obtain ⟨x1, e1⟩ : ∃ x : Int, x = d.2.1 := ⟨_, rfl⟩
  obtain ⟨x2, e2⟩ : ∃ x : Int, x = d.2.2.1 := ⟨_, rfl⟩
  have qok : Hid (∀ w', Below w.heap.size w w' → Calls Try.prog 22 #[.agg #[.int .i64 x0, .int .i64 x1, .int .i64 x2, .slice a3 n3 c3, .slice a4 n4 c4, .slice a5 n5 c5]] w' fun e w'' => e = .returned (.bool false) ∧ Below w'.heap.size w' w'') := fun w' h' => by
    rw [e0, e1, e2, ← hok]; exact implOk_ok _ d w' (ho.reads.later h') hs
  rw [← e0, ← e1, ← e2]
  obtain ⟨W1, hW1⟩ : ∃ W, W = (w.alloc (.cells #[.int .i64 x0, .int .i64 x1, .int .i64 x2, .slice a3 n3 c3, .slice a4 n4 c4, .slice a5 n5 c5] 32)).alloc (.cells #[.int .i64 0, .int .i64 0, .int .i64 0, .slice none 0 0, .slice none 0 0, .slice none 0 0] 32) := ⟨_, rfl⟩
  have bW1 : Below w.heap.size w W1 := by rw [hW1]; exact ((Below.refl _ _).alloc (Nat.le_refl _) _).alloc (by simp) _
  have zW1 : w.heap.size + 1 < W1.heap.size := by rw [hW1]; simp
  have hbd : W1.heap[w.heap.size]? = some (.cells #[.int .i64 x0, .int .i64 x1, .int .i64 x2, .slice a3 n3 c3, .slice a4 n4 c4, .slice a5 n5 c5] 32 (0, 0)) := by rw [hW1]; exact (heap_alloc_old _ _ (by simp)).trans (heap_alloc_new w _)
  have hbr : W1.heap[w.heap.size + 1]? = some (.cells #[.int .i64 0, .int .i64 0, .int .i64 0, .slice none 0 0, .slice none 0 0, .slice none 0 0] 32 (0, 0)) := by
    rw [hW1]
    have := heap_alloc_new (w.alloc (.cells #[.int .i64 x0, .int .i64 x1, .int .i64 x2, .slice a3 n3 c3, .slice a4 n4 c4, .slice a5 n5 c5] 32)) (.cells #[.int .i64 0, .int .i64 0, .int .i64 0, .slice none 0 0, .slice none 0 0, .slice none 0 0] 32)
    simpa using this
  have HW1 : Hid (W1 = (w.alloc (.cells #[.int .i64 x0, .int .i64 x1, .int .i64 x2, .slice a3 n3 c3, .slice a4 n4 c4, .slice a5 n5 c5] 32)).alloc (.cells #[.int .i64 0, .int .i64 0, .int .i64 0, .slice none 0 0, .slice none 0 0, .slice none 0 0] 32)) := hW1
  have BX : Hid (∀ w', Below W1.heap.size W1 w' → w'.heap[w.heap.size]? = some (.cells #[.int .i64 x0, .int .i64 x1, .int .i64 x2, .slice a3 n3 c3, .slice a4 n4 c4, .slice a5 n5 c5] 32 (0, 0)) ∧ w'.heap[w.heap.size + 1]? = some (.cells #[.int .i64 0, .int .i64 0, .int .i64 0, .slice none 0 0, .slice none 0 0, .slice none 0 0] 32 (0, 0))) := fun w' h' => ⟨(h'.block _ (by omega)).trans hbd, (h'.block _ zW1).trans hbr⟩
  have HE : Hid (x0 = d.1 ∧ x1 = d.2.1 ∧ x2 = d.2.2.1) := ⟨e0, e1, e2⟩
  clear ho hs o3 o4 o5 e0 e1 e2 hok hW1 hbd hbr
  go_enter Try.func23, Try.ntmps23
  go_wp2_with fail
  rw [← HW1.out]
  refine (qok.out _ bW1).mono ?_
  rintro e w1 ⟨rfl, hb1⟩
  have b1 := bW1.trans (hb1.mono bW1.size)
  obtain ⟨hd, hz⟩ := BX.out w1 hb1
  have z1 := hb1.size
  have m0 : w1.cell? ⟨w.heap.size + 1, 0, none⟩ = some (.int .i64 0) := box_cell hz rfl
  have m1 : w1.cell? ⟨w.heap.size + 1, 1, none⟩ = some (.int .i64 0) := box_cell hz rfl
  have m2 : w1.cell? ⟨w.heap.size + 1, 2, none⟩ = some (.int .i64 0) := box_cell hz rfl
  have m3 : w1.cell? ⟨w.heap.size + 1, 3, none⟩ = some (.slice none 0 0) := box_cell hz rfl
  have m4 : w1.cell? ⟨w.heap.size + 1, 4, none⟩ = some (.slice none 0 0) := box_cell hz rfl
  have m5 : w1.cell? ⟨w.heap.size + 1, 5, none⟩ = some (.slice none 0 0) := box_cell hz rfl
  have u0 : w1.frozen? ⟨w.heap.size + 1, 0, none⟩ = false := box_frozen hz
  have u1 : w1.frozen? ⟨w.heap.size + 1, 1, none⟩ = false := box_frozen hz
  have u2 : w1.frozen? ⟨w.heap.size + 1, 2, none⟩ = false := box_frozen hz
  have u3 : w1.frozen? ⟨w.heap.size + 1, 3, none⟩ = false := box_frozen hz
  have u4 : w1.frozen? ⟨w.heap.size + 1, 4, none⟩ = false := box_frozen hz
  have u5 : w1.frozen? ⟨w.heap.size + 1, 5, none⟩ = false := box_frozen hz
  have hfin : ∃ X, X = ((((((w1.setCell ⟨w.heap.size + 1, 0, none⟩ (.int .i64 0)).setCell ⟨w.heap.size + 1, 1, none⟩ (.int .i64 0)).setCell ⟨w.heap.size + 1, 2, none⟩ (.int .i64 0)).setCell ⟨w.heap.size + 1, 3, none⟩ (.slice none 0 0)).setCell ⟨w.heap.size + 1, 4, none⟩ (.slice none 0 0)).setCell ⟨w.heap.size + 1, 5, none⟩ (.slice none 0 0)) ∧ Below w.heap.size w X ∧ X.heap[w.heap.size + 1]? = some (.cells #[.int .i64 0, .int .i64 0, .int .i64 0, .slice none 0 0, .slice none 0 0, .slice none 0 0] 32 (0, 0)) := ⟨_, rfl, ((((((b1).setCell (by show w.heap.size ≤ w.heap.size + 1; omega) _).setCell (by show w.heap.size ≤ w.heap.size + 1; omega) _).setCell (by show w.heap.size ≤ w.heap.size + 1; omega) _).setCell (by show w.heap.size ≤ w.heap.size + 1; omega) _).setCell (by show w.heap.size ≤ w.heap.size + 1; omega) _).setCell (by show w.heap.size ≤ w.heap.size + 1; omega) _, by rw [(box_set (j := 5) (.slice none 0 0) (box_set (j := 4) (.slice none 0 0) (box_set (j := 3) (.slice none 0 0) (box_set (j := 2) (.int .i64 0) (box_set (j := 1) (.int .i64 0) (box_set (j := 0) (.int .i64 0) hz))))))]; rfl⟩
  obtain ⟨WF, hWF, bF, xF⟩ := hfin
  have f0 : WF.cell? ⟨w.heap.size + 1, 0, none⟩ = some (.int .i64 0) := box_cell xF rfl
  have f1 : WF.cell? ⟨w.heap.size + 1, 1, none⟩ = some (.int .i64 0) := box_cell xF rfl
  have f2 : WF.cell? ⟨w.heap.size + 1, 2, none⟩ = some (.int .i64 0) := box_cell xF rfl
  have f3 : WF.cell? ⟨w.heap.size + 1, 3, none⟩ = some (.slice none 0 0) := box_cell xF rfl
  have f4 : WF.cell? ⟨w.heap.size + 1, 4, none⟩ = some (.slice none 0 0) := box_cell xF rfl
  have f5 : WF.cell? ⟨w.heap.size + 1, 5, none⟩ = some (.slice none 0 0) := box_cell xF rfl
  have HF : Hid (WF = ((((((w1.setCell ⟨w.heap.size + 1, 0, none⟩ (.int .i64 0)).setCell ⟨w.heap.size + 1, 1, none⟩ (.int .i64 0)).setCell ⟨w.heap.size + 1, 2, none⟩ (.int .i64 0)).setCell ⟨w.heap.size + 1, 3, none⟩ (.slice none 0 0)).setCell ⟨w.heap.size + 1, 4, none⟩ (.slice none 0 0)).setCell ⟨w.heap.size + 1, 5, none⟩ (.slice none 0 0))) := hWF
  clear hb1 hd hz hWF xF
  go_wp2
  rw [← HF.out]
  exact bodyPost_ret (v := .tuple #[.agg #[.int .i64 0, .int .i64 0, .int .i64 0, .slice none 0 0, .slice none 0 0, .slice none 0 0], .bool false]) (by simp [results, Try.results23, go_sem, f0, f1, f2, f3, f4, f5]) rfl ⟨rfl, bF⟩

set_option maxRecDepth 100000 in
set_option maxHeartbeats 4000000 in
theorem copyRight_true (cs : List Value) (d : shDisk.D) (B0 : Nat) (G : List Nat) (w : World) (ho : Own shDisk w B0 cs d G) (hs : shDisk.sz d ≤ 1048576) (hok : implOkB d = true) :
    Calls Try.prog 23 #[.agg cs.toArray] w fun e w' => ∃ cs' F, e = .returned (.tuple #[.agg cs'.toArray, .bool true]) ∧ Own shDisk w' w.heap.size cs' d F ∧ F.Nodup ∧ Below w.heap.size w w' := by
  obtain ⟨a3, n3, c3, F3, a4, n4, c4, F4, a5, n5, c5, F5, rfl, _, o3, o4, o5⟩ := openO_Disk ho
  obtain ⟨x0, e0⟩ : ∃ x : Int, x = d.1 := ⟨_, rfl⟩
  obtain ⟨x1, e1⟩ : ∃ x : Int, x = d.2.1 := ⟨_, rfl⟩
  obtain ⟨x2, e2⟩ : ∃ x : Int, x = d.2.2.1 := ⟨_, rfl⟩
  have qok : Hid (∀ w', Below w.heap.size w w' → Calls Try.prog 22 #[.agg #[.int .i64 x0, .int .i64 x1, .int .i64 x2, .slice a3 n3 c3, .slice a4 n4 c4, .slice a5 n5 c5]] w' fun e w'' => e = .returned (.bool true) ∧ Below w'.heap.size w' w'') := fun w' h' => by
    rw [e0, e1, e2, ← hok]; exact implOk_ok _ d w' (ho.reads.later h') hs
  have qcp : Hid (∀ w', Below w.heap.size w w' → Calls Try.prog 52 #[.agg #[.int .i64 x0, .int .i64 x1, .int .i64 x2, .slice a3 n3 c3, .slice a4 n4 c4, .slice a5 n5 c5]] w' fun e w'' => ∃ cs' F, e = .returned (.agg cs'.toArray) ∧ Own shDisk w'' w'.heap.size cs' d F ∧ F.Nodup ∧ Below w'.heap.size w' w'') := fun w' h' => by
    rw [e0, e1, e2]; exact implCopy_ok _ d B0 G w' (ho.later h') hs
  rw [← e0, ← e1, ← e2]
  obtain ⟨W1, hW1⟩ : ∃ W, W = (w.alloc (.cells #[.int .i64 x0, .int .i64 x1, .int .i64 x2, .slice a3 n3 c3, .slice a4 n4 c4, .slice a5 n5 c5] 32)).alloc (.cells #[.int .i64 0, .int .i64 0, .int .i64 0, .slice none 0 0, .slice none 0 0, .slice none 0 0] 32) := ⟨_, rfl⟩
  have bW1 : Below w.heap.size w W1 := by rw [hW1]; exact ((Below.refl _ _).alloc (Nat.le_refl _) _).alloc (by simp) _
  have zW1 : w.heap.size + 1 < W1.heap.size := by rw [hW1]; simp
  have hbd : W1.heap[w.heap.size]? = some (.cells #[.int .i64 x0, .int .i64 x1, .int .i64 x2, .slice a3 n3 c3, .slice a4 n4 c4, .slice a5 n5 c5] 32 (0, 0)) := by rw [hW1]; exact (heap_alloc_old _ _ (by simp)).trans (heap_alloc_new w _)
  have hbr : W1.heap[w.heap.size + 1]? = some (.cells #[.int .i64 0, .int .i64 0, .int .i64 0, .slice none 0 0, .slice none 0 0, .slice none 0 0] 32 (0, 0)) := by
    rw [hW1]
    have := heap_alloc_new (w.alloc (.cells #[.int .i64 x0, .int .i64 x1, .int .i64 x2, .slice a3 n3 c3, .slice a4 n4 c4, .slice a5 n5 c5] 32)) (.cells #[.int .i64 0, .int .i64 0, .int .i64 0, .slice none 0 0, .slice none 0 0, .slice none 0 0] 32)
    simpa using this
  have HW1 : Hid (W1 = (w.alloc (.cells #[.int .i64 x0, .int .i64 x1, .int .i64 x2, .slice a3 n3 c3, .slice a4 n4 c4, .slice a5 n5 c5] 32)).alloc (.cells #[.int .i64 0, .int .i64 0, .int .i64 0, .slice none 0 0, .slice none 0 0, .slice none 0 0] 32)) := hW1
  have BX : Hid (∀ w', Below W1.heap.size W1 w' → w'.heap[w.heap.size]? = some (.cells #[.int .i64 x0, .int .i64 x1, .int .i64 x2, .slice a3 n3 c3, .slice a4 n4 c4, .slice a5 n5 c5] 32 (0, 0)) ∧ w'.heap[w.heap.size + 1]? = some (.cells #[.int .i64 0, .int .i64 0, .int .i64 0, .slice none 0 0, .slice none 0 0, .slice none 0 0] 32 (0, 0))) := fun w' h' => ⟨(h'.block _ (by omega)).trans hbd, (h'.block _ zW1).trans hbr⟩
  have HE : Hid (x0 = d.1 ∧ x1 = d.2.1 ∧ x2 = d.2.2.1) := ⟨e0, e1, e2⟩
  clear ho hs o3 o4 o5 e0 e1 e2 hok hW1 hbd hbr
  go_enter Try.func23, Try.ntmps23
  go_wp2_with fail
  rw [← HW1.out]
  refine (qok.out _ bW1).mono ?_
  rintro e w1 ⟨rfl, hb1⟩
  have b1 := bW1.trans (hb1.mono bW1.size)
  obtain ⟨hd, hz⟩ := BX.out w1 hb1
  have z1 := hb1.size
  have y0 : w1.cell? ⟨w.heap.size, 0, none⟩ = some (.int .i64 x0) := box_cell hd rfl
  have y1 : w1.cell? ⟨w.heap.size, 1, none⟩ = some (.int .i64 x1) := box_cell hd rfl
  have y2 : w1.cell? ⟨w.heap.size, 2, none⟩ = some (.int .i64 x2) := box_cell hd rfl
  have y3 : w1.cell? ⟨w.heap.size, 3, none⟩ = some (.slice a3 n3 c3) := box_cell hd rfl
  have y4 : w1.cell? ⟨w.heap.size, 4, none⟩ = some (.slice a4 n4 c4) := box_cell hd rfl
  have y5 : w1.cell? ⟨w.heap.size, 5, none⟩ = some (.slice a5 n5 c5) := box_cell hd rfl
  have zlt : w.heap.size < w1.heap.size := by omega
  have HZ : Hid (w1.heap[w.heap.size + 1]? = some (.cells #[.int .i64 0, .int .i64 0, .int .i64 0, .slice none 0 0, .slice none 0 0, .slice none 0 0] 32 (0, 0)) ∧ w.heap.size + 1 < w1.heap.size) := ⟨hz, by omega⟩
  clear hb1 hd hz
  go_wp2_with fail
  refine (qcp.out _ b1).mono ?_
  rintro e w2 ⟨cs', F, he, p, nd, hb2⟩
  have b2 := b1.trans (hb2.mono b1.size)
  have hz2 := (hb2.block _ HZ.out.2).trans HZ.out.1
  have z2 := hb2.size
  obtain ⟨p3, r3, s3, p4, r4, s4, p5, r5, s5, hcs, _⟩ := open_Disk p.reads
  rw [← HE.out.1, ← HE.out.2.1, ← HE.out.2.2] at hcs
  subst hcs
  subst he
  have m0 : w2.cell? ⟨w.heap.size + 1, 0, none⟩ = some (.int .i64 0) := box_cell hz2 rfl
  have m1 : w2.cell? ⟨w.heap.size + 1, 1, none⟩ = some (.int .i64 0) := box_cell hz2 rfl
  have m2 : w2.cell? ⟨w.heap.size + 1, 2, none⟩ = some (.int .i64 0) := box_cell hz2 rfl
  have m3 : w2.cell? ⟨w.heap.size + 1, 3, none⟩ = some (.slice none 0 0) := box_cell hz2 rfl
  have m4 : w2.cell? ⟨w.heap.size + 1, 4, none⟩ = some (.slice none 0 0) := box_cell hz2 rfl
  have m5 : w2.cell? ⟨w.heap.size + 1, 5, none⟩ = some (.slice none 0 0) := box_cell hz2 rfl
  have u0 : w2.frozen? ⟨w.heap.size + 1, 0, none⟩ = false := box_frozen hz2
  have u1 : w2.frozen? ⟨w.heap.size + 1, 1, none⟩ = false := box_frozen hz2
  have u2 : w2.frozen? ⟨w.heap.size + 1, 2, none⟩ = false := box_frozen hz2
  have u3 : w2.frozen? ⟨w.heap.size + 1, 3, none⟩ = false := box_frozen hz2
  have u4 : w2.frozen? ⟨w.heap.size + 1, 4, none⟩ = false := box_frozen hz2
  have u5 : w2.frozen? ⟨w.heap.size + 1, 5, none⟩ = false := box_frozen hz2
  have hfin : ∃ X, X = ((((((w2.setCell ⟨w.heap.size + 1, 0, none⟩ (.int .i64 x0)).setCell ⟨w.heap.size + 1, 1, none⟩ (.int .i64 x1)).setCell ⟨w.heap.size + 1, 2, none⟩ (.int .i64 x2)).setCell ⟨w.heap.size + 1, 3, none⟩ (.slice p3 r3 s3)).setCell ⟨w.heap.size + 1, 4, none⟩ (.slice p4 r4 s4)).setCell ⟨w.heap.size + 1, 5, none⟩ (.slice p5 r5 s5)) ∧ Below w.heap.size w X ∧ X.heap[w.heap.size + 1]? = some (.cells #[.int .i64 x0, .int .i64 x1, .int .i64 x2, .slice p3 r3 s3, .slice p4 r4 s4, .slice p5 r5 s5] 32 (0, 0)) ∧ Own shDisk X w.heap.size [.int .i64 x0, .int .i64 x1, .int .i64 x2, .slice p3 r3 s3, .slice p4 r4 s4, .slice p5 r5 s5] d F := ⟨_, rfl, ((((((b2).setCell (by show w.heap.size ≤ w.heap.size + 1; omega) _).setCell (by show w.heap.size ≤ w.heap.size + 1; omega) _).setCell (by show w.heap.size ≤ w.heap.size + 1; omega) _).setCell (by show w.heap.size ≤ w.heap.size + 1; omega) _).setCell (by show w.heap.size ≤ w.heap.size + 1; omega) _).setCell (by show w.heap.size ≤ w.heap.size + 1; omega) _, by rw [(box_set (j := 5) (.slice p5 r5 s5) (box_set (j := 4) (.slice p4 r4 s4) (box_set (j := 3) (.slice p3 r3 s3) (box_set (j := 2) (.int .i64 x2) (box_set (j := 1) (.int .i64 x1) (box_set (j := 0) (.int .i64 x0) hz2))))))]; rfl, (p.keep fun y hy => ((box_other (b := w.heap.size + 1) (j := 5) (.slice p5 r5 s5) (by have := (p.lt y hy).1; have := HZ.out.2; omega)).trans ((box_other (b := w.heap.size + 1) (j := 4) (.slice p4 r4 s4) (by have := (p.lt y hy).1; have := HZ.out.2; omega)).trans ((box_other (b := w.heap.size + 1) (j := 3) (.slice p3 r3 s3) (by have := (p.lt y hy).1; have := HZ.out.2; omega)).trans ((box_other (b := w.heap.size + 1) (j := 2) (.int .i64 x2) (by have := (p.lt y hy).1; have := HZ.out.2; omega)).trans ((box_other (b := w.heap.size + 1) (j := 1) (.int .i64 x1) (by have := (p.lt y hy).1; have := HZ.out.2; omega)).trans (box_other (b := w.heap.size + 1) (j := 0) (.int .i64 x0) (by have := (p.lt y hy).1; have := HZ.out.2; omega)))))))).base b1.size⟩
  obtain ⟨WF, hWF, bF, xF, oF⟩ := hfin
  have f0 : WF.cell? ⟨w.heap.size + 1, 0, none⟩ = some (.int .i64 x0) := box_cell xF rfl
  have f1 : WF.cell? ⟨w.heap.size + 1, 1, none⟩ = some (.int .i64 x1) := box_cell xF rfl
  have f2 : WF.cell? ⟨w.heap.size + 1, 2, none⟩ = some (.int .i64 x2) := box_cell xF rfl
  have f3 : WF.cell? ⟨w.heap.size + 1, 3, none⟩ = some (.slice p3 r3 s3) := box_cell xF rfl
  have f4 : WF.cell? ⟨w.heap.size + 1, 4, none⟩ = some (.slice p4 r4 s4) := box_cell xF rfl
  have f5 : WF.cell? ⟨w.heap.size + 1, 5, none⟩ = some (.slice p5 r5 s5) := box_cell xF rfl
  have HF : Hid (WF = ((((((w2.setCell ⟨w.heap.size + 1, 0, none⟩ (.int .i64 x0)).setCell ⟨w.heap.size + 1, 1, none⟩ (.int .i64 x1)).setCell ⟨w.heap.size + 1, 2, none⟩ (.int .i64 x2)).setCell ⟨w.heap.size + 1, 3, none⟩ (.slice p3 r3 s3)).setCell ⟨w.heap.size + 1, 4, none⟩ (.slice p4 r4 s4)).setCell ⟨w.heap.size + 1, 5, none⟩ (.slice p5 r5 s5)) ∧ Own shDisk WF w.heap.size [.int .i64 x0, .int .i64 x1, .int .i64 x2, .slice p3 r3 s3, .slice p4 r4 s4, .slice p5 r5 s5] d F ∧ F.Nodup) := ⟨hWF, oF, nd⟩
  clear hWF xF oF p nd hb2 hz2 y0 y1 y2 y3 y4 y5
  go_wp2
  rw [← HF.out.1]
  exact bodyPost_ret (v := .tuple #[.agg #[.int .i64 x0, .int .i64 x1, .int .i64 x2, .slice p3 r3 s3, .slice p4 r4 s4, .slice p5 r5 s5], .bool true]) (by simp [results, Try.results23, go_sem, f0, f1, f2, f3, f4, f5]) rfl ⟨_, F, rfl, HF.out.2.1, HF.out.2.2, bF⟩

set_option maxRecDepth 100000 in
set_option maxHeartbeats 2000000 in
theorem l04If_off (cs : List Value) (w : World) (hcs : ∃ a b c a3 n3 c3 a4 n4 c4 a5 n5 c5, cs = [.int .i64 a, .int .i64 b, .int .i64 c, .slice a3 n3 c3, .slice a4 n4 c4, .slice a5 n5 c5]) :
    Calls Try.prog 18 #[.agg cs.toArray, .bool false] w fun e w' => e = .returned (.tuple #[.agg #[.int .i64 0, .int .i64 0, .int .i64 0, .slice none 0 0, .slice none 0 0, .slice none 0 0], .bool false]) ∧ Below w.heap.size w w' := by
  obtain ⟨x0, x1, x2, a3, n3, c3, a4, n4, c4, a5, n5, c5, rfl⟩ := hcs
  go_enter Try.func18, Try.ntmps18
  go_wp2
  go_returns
  exact ⟨rfl, ((Below.refl _ _).alloc (Nat.le_refl _) _).alloc (by simp) _⟩

set_option maxRecDepth 100000 in
set_option maxHeartbeats 4000000 in
theorem l04If_false (cs : List Value) (d : shDisk.D) (B0 : Nat) (G : List Nat) (w : World) (ho : Own shDisk w B0 cs d G) (hs : shDisk.sz d ≤ 1048576) (hok : implOkB d = false) :
    Calls Try.prog 18 #[.agg cs.toArray, .bool true] w fun e w' => e = .returned (.tuple #[.agg #[.int .i64 0, .int .i64 0, .int .i64 0, .slice none 0 0, .slice none 0 0, .slice none 0 0], .bool false]) ∧ Below w.heap.size w w' := by
  obtain ⟨a3, n3, c3, F3, a4, n4, c4, F4, a5, n5, c5, F5, rfl, _, o3, o4, o5⟩ := openO_Disk ho
  obtain ⟨x0, e0⟩ : ∃ x : Int, x = d.1 := ⟨_, rfl⟩
  obtain ⟨x1, e1⟩ : ∃ x : Int, x = d.2.1 := ⟨_, rfl⟩
  obtain ⟨x2, e2⟩ : ∃ x : Int, x = d.2.2.1 := ⟨_, rfl⟩
  have qok : Hid (∀ w', Below w.heap.size w w' → Calls Try.prog 17 #[.agg #[.int .i64 x0, .int .i64 x1, .int .i64 x2, .slice a3 n3 c3, .slice a4 n4 c4, .slice a5 n5 c5]] w' fun e w'' => e = .returned (.bool false) ∧ Below w'.heap.size w' w'') := fun w' h' => by
    rw [e0, e1, e2, ← hok]; exact specOkB_ok _ d w' (ho.reads.later h') hs
  rw [← e0, ← e1, ← e2]
  obtain ⟨W1, hW1⟩ : ∃ W, W = (w.alloc (.cells #[.int .i64 x0, .int .i64 x1, .int .i64 x2, .slice a3 n3 c3, .slice a4 n4 c4, .slice a5 n5 c5] 32)).alloc (.cells #[.int .i64 0, .int .i64 0, .int .i64 0, .slice none 0 0, .slice none 0 0, .slice none 0 0] 32) := ⟨_, rfl⟩
  have bW1 : Below w.heap.size w W1 := by rw [hW1]; exact ((Below.refl _ _).alloc (Nat.le_refl _) _).alloc (by simp) _
  have zW1 : w.heap.size + 1 < W1.heap.size := by rw [hW1]; simp
  have hbd : W1.heap[w.heap.size]? = some (.cells #[.int .i64 x0, .int .i64 x1, .int .i64 x2, .slice a3 n3 c3, .slice a4 n4 c4, .slice a5 n5 c5] 32 (0, 0)) := by rw [hW1]; exact (heap_alloc_old _ _ (by simp)).trans (heap_alloc_new w _)
  have hbr : W1.heap[w.heap.size + 1]? = some (.cells #[.int .i64 0, .int .i64 0, .int .i64 0, .slice none 0 0, .slice none 0 0, .slice none 0 0] 32 (0, 0)) := by
    rw [hW1]
    have := heap_alloc_new (w.alloc (.cells #[.int .i64 x0, .int .i64 x1, .int .i64 x2, .slice a3 n3 c3, .slice a4 n4 c4, .slice a5 n5 c5] 32)) (.cells #[.int .i64 0, .int .i64 0, .int .i64 0, .slice none 0 0, .slice none 0 0, .slice none 0 0] 32)
    simpa using this
  have HW1 : Hid (W1 = (w.alloc (.cells #[.int .i64 x0, .int .i64 x1, .int .i64 x2, .slice a3 n3 c3, .slice a4 n4 c4, .slice a5 n5 c5] 32)).alloc (.cells #[.int .i64 0, .int .i64 0, .int .i64 0, .slice none 0 0, .slice none 0 0, .slice none 0 0] 32)) := hW1
  have BX : Hid (∀ w', Below W1.heap.size W1 w' → w'.heap[w.heap.size]? = some (.cells #[.int .i64 x0, .int .i64 x1, .int .i64 x2, .slice a3 n3 c3, .slice a4 n4 c4, .slice a5 n5 c5] 32 (0, 0)) ∧ w'.heap[w.heap.size + 1]? = some (.cells #[.int .i64 0, .int .i64 0, .int .i64 0, .slice none 0 0, .slice none 0 0, .slice none 0 0] 32 (0, 0))) := fun w' h' => ⟨(h'.block _ (by omega)).trans hbd, (h'.block _ zW1).trans hbr⟩
  have HE : Hid (x0 = d.1 ∧ x1 = d.2.1 ∧ x2 = d.2.2.1) := ⟨e0, e1, e2⟩
  clear ho hs o3 o4 o5 e0 e1 e2 hok hW1 hbd hbr
  go_enter Try.func18, Try.ntmps18
  go_wp2_with fail
  rw [← HW1.out]
  refine (qok.out _ bW1).mono ?_
  rintro e w1 ⟨rfl, hb1⟩
  have b1 := bW1.trans (hb1.mono bW1.size)
  obtain ⟨hd, hz⟩ := BX.out w1 hb1
  have z1 := hb1.size
  have m0 : w1.cell? ⟨w.heap.size + 1, 0, none⟩ = some (.int .i64 0) := box_cell hz rfl
  have m1 : w1.cell? ⟨w.heap.size + 1, 1, none⟩ = some (.int .i64 0) := box_cell hz rfl
  have m2 : w1.cell? ⟨w.heap.size + 1, 2, none⟩ = some (.int .i64 0) := box_cell hz rfl
  have m3 : w1.cell? ⟨w.heap.size + 1, 3, none⟩ = some (.slice none 0 0) := box_cell hz rfl
  have m4 : w1.cell? ⟨w.heap.size + 1, 4, none⟩ = some (.slice none 0 0) := box_cell hz rfl
  have m5 : w1.cell? ⟨w.heap.size + 1, 5, none⟩ = some (.slice none 0 0) := box_cell hz rfl
  have u0 : w1.frozen? ⟨w.heap.size + 1, 0, none⟩ = false := box_frozen hz
  have u1 : w1.frozen? ⟨w.heap.size + 1, 1, none⟩ = false := box_frozen hz
  have u2 : w1.frozen? ⟨w.heap.size + 1, 2, none⟩ = false := box_frozen hz
  have u3 : w1.frozen? ⟨w.heap.size + 1, 3, none⟩ = false := box_frozen hz
  have u4 : w1.frozen? ⟨w.heap.size + 1, 4, none⟩ = false := box_frozen hz
  have u5 : w1.frozen? ⟨w.heap.size + 1, 5, none⟩ = false := box_frozen hz
  have hfin : ∃ X, X = ((((((w1.setCell ⟨w.heap.size + 1, 0, none⟩ (.int .i64 0)).setCell ⟨w.heap.size + 1, 1, none⟩ (.int .i64 0)).setCell ⟨w.heap.size + 1, 2, none⟩ (.int .i64 0)).setCell ⟨w.heap.size + 1, 3, none⟩ (.slice none 0 0)).setCell ⟨w.heap.size + 1, 4, none⟩ (.slice none 0 0)).setCell ⟨w.heap.size + 1, 5, none⟩ (.slice none 0 0)) ∧ Below w.heap.size w X ∧ X.heap[w.heap.size + 1]? = some (.cells #[.int .i64 0, .int .i64 0, .int .i64 0, .slice none 0 0, .slice none 0 0, .slice none 0 0] 32 (0, 0)) := ⟨_, rfl, ((((((b1).setCell (by show w.heap.size ≤ w.heap.size + 1; omega) _).setCell (by show w.heap.size ≤ w.heap.size + 1; omega) _).setCell (by show w.heap.size ≤ w.heap.size + 1; omega) _).setCell (by show w.heap.size ≤ w.heap.size + 1; omega) _).setCell (by show w.heap.size ≤ w.heap.size + 1; omega) _).setCell (by show w.heap.size ≤ w.heap.size + 1; omega) _, by rw [(box_set (j := 5) (.slice none 0 0) (box_set (j := 4) (.slice none 0 0) (box_set (j := 3) (.slice none 0 0) (box_set (j := 2) (.int .i64 0) (box_set (j := 1) (.int .i64 0) (box_set (j := 0) (.int .i64 0) hz))))))]; rfl⟩
  obtain ⟨WF, hWF, bF, xF⟩ := hfin
  have f0 : WF.cell? ⟨w.heap.size + 1, 0, none⟩ = some (.int .i64 0) := box_cell xF rfl
  have f1 : WF.cell? ⟨w.heap.size + 1, 1, none⟩ = some (.int .i64 0) := box_cell xF rfl
  have f2 : WF.cell? ⟨w.heap.size + 1, 2, none⟩ = some (.int .i64 0) := box_cell xF rfl
  have f3 : WF.cell? ⟨w.heap.size + 1, 3, none⟩ = some (.slice none 0 0) := box_cell xF rfl
  have f4 : WF.cell? ⟨w.heap.size + 1, 4, none⟩ = some (.slice none 0 0) := box_cell xF rfl
  have f5 : WF.cell? ⟨w.heap.size + 1, 5, none⟩ = some (.slice none 0 0) := box_cell xF rfl
  have HF : Hid (WF = ((((((w1.setCell ⟨w.heap.size + 1, 0, none⟩ (.int .i64 0)).setCell ⟨w.heap.size + 1, 1, none⟩ (.int .i64 0)).setCell ⟨w.heap.size + 1, 2, none⟩ (.int .i64 0)).setCell ⟨w.heap.size + 1, 3, none⟩ (.slice none 0 0)).setCell ⟨w.heap.size + 1, 4, none⟩ (.slice none 0 0)).setCell ⟨w.heap.size + 1, 5, none⟩ (.slice none 0 0))) := hWF
  clear hb1 hd hz hWF xF
  go_wp2
  rw [← HF.out]
  exact bodyPost_ret (v := .tuple #[.agg #[.int .i64 0, .int .i64 0, .int .i64 0, .slice none 0 0, .slice none 0 0, .slice none 0 0], .bool false]) (by simp [results, Try.results18, go_sem, f0, f1, f2, f3, f4, f5]) rfl ⟨rfl, bF⟩

set_option maxRecDepth 100000 in
set_option maxHeartbeats 4000000 in
theorem l04If_true (cs : List Value) (d : shDisk.D) (B0 : Nat) (G : List Nat) (w : World) (ho : Own shDisk w B0 cs d G) (hs : shDisk.sz d ≤ 1048576) (hok : implOkB d = true) :
    Calls Try.prog 18 #[.agg cs.toArray, .bool true] w fun e w' => ∃ cs' F, e = .returned (.tuple #[.agg cs'.toArray, .bool true]) ∧ Own shDisk w' w.heap.size cs' d F ∧ F.Nodup ∧ Below w.heap.size w w' := by
  obtain ⟨a3, n3, c3, F3, a4, n4, c4, F4, a5, n5, c5, F5, rfl, _, o3, o4, o5⟩ := openO_Disk ho
  obtain ⟨x0, e0⟩ : ∃ x : Int, x = d.1 := ⟨_, rfl⟩
  obtain ⟨x1, e1⟩ : ∃ x : Int, x = d.2.1 := ⟨_, rfl⟩
  obtain ⟨x2, e2⟩ : ∃ x : Int, x = d.2.2.1 := ⟨_, rfl⟩
  have qok : Hid (∀ w', Below w.heap.size w w' → Calls Try.prog 17 #[.agg #[.int .i64 x0, .int .i64 x1, .int .i64 x2, .slice a3 n3 c3, .slice a4 n4 c4, .slice a5 n5 c5]] w' fun e w'' => e = .returned (.bool true) ∧ Below w'.heap.size w' w'') := fun w' h' => by
    rw [e0, e1, e2, ← hok]; exact specOkB_ok _ d w' (ho.reads.later h') hs
  have qcp : Hid (∀ w', Below w.heap.size w w' → Calls Try.prog 42 #[.agg #[.int .i64 x0, .int .i64 x1, .int .i64 x2, .slice a3 n3 c3, .slice a4 n4 c4, .slice a5 n5 c5]] w' fun e w'' => ∃ cs' F, e = .returned (.agg cs'.toArray) ∧ Own shDisk w'' w'.heap.size cs' d F ∧ F.Nodup ∧ Below w'.heap.size w' w'') := fun w' h' => by
    rw [e0, e1, e2]; exact specCopy_ok _ d B0 G w' (ho.later h') hs
  rw [← e0, ← e1, ← e2]
  obtain ⟨W1, hW1⟩ : ∃ W, W = (w.alloc (.cells #[.int .i64 x0, .int .i64 x1, .int .i64 x2, .slice a3 n3 c3, .slice a4 n4 c4, .slice a5 n5 c5] 32)).alloc (.cells #[.int .i64 0, .int .i64 0, .int .i64 0, .slice none 0 0, .slice none 0 0, .slice none 0 0] 32) := ⟨_, rfl⟩
  have bW1 : Below w.heap.size w W1 := by rw [hW1]; exact ((Below.refl _ _).alloc (Nat.le_refl _) _).alloc (by simp) _
  have zW1 : w.heap.size + 1 < W1.heap.size := by rw [hW1]; simp
  have hbd : W1.heap[w.heap.size]? = some (.cells #[.int .i64 x0, .int .i64 x1, .int .i64 x2, .slice a3 n3 c3, .slice a4 n4 c4, .slice a5 n5 c5] 32 (0, 0)) := by rw [hW1]; exact (heap_alloc_old _ _ (by simp)).trans (heap_alloc_new w _)
  have hbr : W1.heap[w.heap.size + 1]? = some (.cells #[.int .i64 0, .int .i64 0, .int .i64 0, .slice none 0 0, .slice none 0 0, .slice none 0 0] 32 (0, 0)) := by
    rw [hW1]
    have := heap_alloc_new (w.alloc (.cells #[.int .i64 x0, .int .i64 x1, .int .i64 x2, .slice a3 n3 c3, .slice a4 n4 c4, .slice a5 n5 c5] 32)) (.cells #[.int .i64 0, .int .i64 0, .int .i64 0, .slice none 0 0, .slice none 0 0, .slice none 0 0] 32)
    simpa using this
  have HW1 : Hid (W1 = (w.alloc (.cells #[.int .i64 x0, .int .i64 x1, .int .i64 x2, .slice a3 n3 c3, .slice a4 n4 c4, .slice a5 n5 c5] 32)).alloc (.cells #[.int .i64 0, .int .i64 0, .int .i64 0, .slice none 0 0, .slice none 0 0, .slice none 0 0] 32)) := hW1
  have BX : Hid (∀ w', Below W1.heap.size W1 w' → w'.heap[w.heap.size]? = some (.cells #[.int .i64 x0, .int .i64 x1, .int .i64 x2, .slice a3 n3 c3, .slice a4 n4 c4, .slice a5 n5 c5] 32 (0, 0)) ∧ w'.heap[w.heap.size + 1]? = some (.cells #[.int .i64 0, .int .i64 0, .int .i64 0, .slice none 0 0, .slice none 0 0, .slice none 0 0] 32 (0, 0))) := fun w' h' => ⟨(h'.block _ (by omega)).trans hbd, (h'.block _ zW1).trans hbr⟩
  have HE : Hid (x0 = d.1 ∧ x1 = d.2.1 ∧ x2 = d.2.2.1) := ⟨e0, e1, e2⟩
  clear ho hs o3 o4 o5 e0 e1 e2 hok hW1 hbd hbr
  go_enter Try.func18, Try.ntmps18
  go_wp2_with fail
  rw [← HW1.out]
  refine (qok.out _ bW1).mono ?_
  rintro e w1 ⟨rfl, hb1⟩
  have b1 := bW1.trans (hb1.mono bW1.size)
  obtain ⟨hd, hz⟩ := BX.out w1 hb1
  have z1 := hb1.size
  have y0 : w1.cell? ⟨w.heap.size, 0, none⟩ = some (.int .i64 x0) := box_cell hd rfl
  have y1 : w1.cell? ⟨w.heap.size, 1, none⟩ = some (.int .i64 x1) := box_cell hd rfl
  have y2 : w1.cell? ⟨w.heap.size, 2, none⟩ = some (.int .i64 x2) := box_cell hd rfl
  have y3 : w1.cell? ⟨w.heap.size, 3, none⟩ = some (.slice a3 n3 c3) := box_cell hd rfl
  have y4 : w1.cell? ⟨w.heap.size, 4, none⟩ = some (.slice a4 n4 c4) := box_cell hd rfl
  have y5 : w1.cell? ⟨w.heap.size, 5, none⟩ = some (.slice a5 n5 c5) := box_cell hd rfl
  have zlt : w.heap.size < w1.heap.size := by omega
  have HZ : Hid (w1.heap[w.heap.size + 1]? = some (.cells #[.int .i64 0, .int .i64 0, .int .i64 0, .slice none 0 0, .slice none 0 0, .slice none 0 0] 32 (0, 0)) ∧ w.heap.size + 1 < w1.heap.size) := ⟨hz, by omega⟩
  clear hb1 hd hz
  go_wp2_with fail
  refine (qcp.out _ b1).mono ?_
  rintro e w2 ⟨cs', F, he, p, nd, hb2⟩
  have b2 := b1.trans (hb2.mono b1.size)
  have hz2 := (hb2.block _ HZ.out.2).trans HZ.out.1
  have z2 := hb2.size
  obtain ⟨p3, r3, s3, p4, r4, s4, p5, r5, s5, hcs, _⟩ := open_Disk p.reads
  rw [← HE.out.1, ← HE.out.2.1, ← HE.out.2.2] at hcs
  subst hcs
  subst he
  have m0 : w2.cell? ⟨w.heap.size + 1, 0, none⟩ = some (.int .i64 0) := box_cell hz2 rfl
  have m1 : w2.cell? ⟨w.heap.size + 1, 1, none⟩ = some (.int .i64 0) := box_cell hz2 rfl
  have m2 : w2.cell? ⟨w.heap.size + 1, 2, none⟩ = some (.int .i64 0) := box_cell hz2 rfl
  have m3 : w2.cell? ⟨w.heap.size + 1, 3, none⟩ = some (.slice none 0 0) := box_cell hz2 rfl
  have m4 : w2.cell? ⟨w.heap.size + 1, 4, none⟩ = some (.slice none 0 0) := box_cell hz2 rfl
  have m5 : w2.cell? ⟨w.heap.size + 1, 5, none⟩ = some (.slice none 0 0) := box_cell hz2 rfl
  have u0 : w2.frozen? ⟨w.heap.size + 1, 0, none⟩ = false := box_frozen hz2
  have u1 : w2.frozen? ⟨w.heap.size + 1, 1, none⟩ = false := box_frozen hz2
  have u2 : w2.frozen? ⟨w.heap.size + 1, 2, none⟩ = false := box_frozen hz2
  have u3 : w2.frozen? ⟨w.heap.size + 1, 3, none⟩ = false := box_frozen hz2
  have u4 : w2.frozen? ⟨w.heap.size + 1, 4, none⟩ = false := box_frozen hz2
  have u5 : w2.frozen? ⟨w.heap.size + 1, 5, none⟩ = false := box_frozen hz2
  have hfin : ∃ X, X = ((((((w2.setCell ⟨w.heap.size + 1, 0, none⟩ (.int .i64 x0)).setCell ⟨w.heap.size + 1, 1, none⟩ (.int .i64 x1)).setCell ⟨w.heap.size + 1, 2, none⟩ (.int .i64 x2)).setCell ⟨w.heap.size + 1, 3, none⟩ (.slice p3 r3 s3)).setCell ⟨w.heap.size + 1, 4, none⟩ (.slice p4 r4 s4)).setCell ⟨w.heap.size + 1, 5, none⟩ (.slice p5 r5 s5)) ∧ Below w.heap.size w X ∧ X.heap[w.heap.size + 1]? = some (.cells #[.int .i64 x0, .int .i64 x1, .int .i64 x2, .slice p3 r3 s3, .slice p4 r4 s4, .slice p5 r5 s5] 32 (0, 0)) ∧ Own shDisk X w.heap.size [.int .i64 x0, .int .i64 x1, .int .i64 x2, .slice p3 r3 s3, .slice p4 r4 s4, .slice p5 r5 s5] d F := ⟨_, rfl, ((((((b2).setCell (by show w.heap.size ≤ w.heap.size + 1; omega) _).setCell (by show w.heap.size ≤ w.heap.size + 1; omega) _).setCell (by show w.heap.size ≤ w.heap.size + 1; omega) _).setCell (by show w.heap.size ≤ w.heap.size + 1; omega) _).setCell (by show w.heap.size ≤ w.heap.size + 1; omega) _).setCell (by show w.heap.size ≤ w.heap.size + 1; omega) _, by rw [(box_set (j := 5) (.slice p5 r5 s5) (box_set (j := 4) (.slice p4 r4 s4) (box_set (j := 3) (.slice p3 r3 s3) (box_set (j := 2) (.int .i64 x2) (box_set (j := 1) (.int .i64 x1) (box_set (j := 0) (.int .i64 x0) hz2))))))]; rfl, (p.keep fun y hy => ((box_other (b := w.heap.size + 1) (j := 5) (.slice p5 r5 s5) (by have := (p.lt y hy).1; have := HZ.out.2; omega)).trans ((box_other (b := w.heap.size + 1) (j := 4) (.slice p4 r4 s4) (by have := (p.lt y hy).1; have := HZ.out.2; omega)).trans ((box_other (b := w.heap.size + 1) (j := 3) (.slice p3 r3 s3) (by have := (p.lt y hy).1; have := HZ.out.2; omega)).trans ((box_other (b := w.heap.size + 1) (j := 2) (.int .i64 x2) (by have := (p.lt y hy).1; have := HZ.out.2; omega)).trans ((box_other (b := w.heap.size + 1) (j := 1) (.int .i64 x1) (by have := (p.lt y hy).1; have := HZ.out.2; omega)).trans (box_other (b := w.heap.size + 1) (j := 0) (.int .i64 x0) (by have := (p.lt y hy).1; have := HZ.out.2; omega)))))))).base b1.size⟩
  obtain ⟨WF, hWF, bF, xF, oF⟩ := hfin
  have f0 : WF.cell? ⟨w.heap.size + 1, 0, none⟩ = some (.int .i64 x0) := box_cell xF rfl
  have f1 : WF.cell? ⟨w.heap.size + 1, 1, none⟩ = some (.int .i64 x1) := box_cell xF rfl
  have f2 : WF.cell? ⟨w.heap.size + 1, 2, none⟩ = some (.int .i64 x2) := box_cell xF rfl
  have f3 : WF.cell? ⟨w.heap.size + 1, 3, none⟩ = some (.slice p3 r3 s3) := box_cell xF rfl
  have f4 : WF.cell? ⟨w.heap.size + 1, 4, none⟩ = some (.slice p4 r4 s4) := box_cell xF rfl
  have f5 : WF.cell? ⟨w.heap.size + 1, 5, none⟩ = some (.slice p5 r5 s5) := box_cell xF rfl
  have HF : Hid (WF = ((((((w2.setCell ⟨w.heap.size + 1, 0, none⟩ (.int .i64 x0)).setCell ⟨w.heap.size + 1, 1, none⟩ (.int .i64 x1)).setCell ⟨w.heap.size + 1, 2, none⟩ (.int .i64 x2)).setCell ⟨w.heap.size + 1, 3, none⟩ (.slice p3 r3 s3)).setCell ⟨w.heap.size + 1, 4, none⟩ (.slice p4 r4 s4)).setCell ⟨w.heap.size + 1, 5, none⟩ (.slice p5 r5 s5)) ∧ Own shDisk WF w.heap.size [.int .i64 x0, .int .i64 x1, .int .i64 x2, .slice p3 r3 s3, .slice p4 r4 s4, .slice p5 r5 s5] d F ∧ F.Nodup) := ⟨hWF, oF, nd⟩
  clear hWF xF oF p nd hb2 hz2 y0 y1 y2 y3 y4 y5
  go_wp2
  rw [← HF.out.1]
  exact bodyPost_ret (v := .tuple #[.agg #[.int .i64 x0, .int .i64 x1, .int .i64 x2, .slice p3 r3 s3, .slice p4 r4 s4, .slice p5 r5 s5], .bool true]) (by simp [results, Try.results18, go_sem, f0, f1, f2, f3, f4, f5]) rfl ⟨_, F, rfl, HF.out.2.1, HF.out.2.2, bF⟩

set_option maxRecDepth 100000 in
set_option maxHeartbeats 4000000 in
theorem implDiskRoom_bad (cs : List Value) (d : shDisk.D) (r : Int) (B0 : Nat) (G : List Nat) (w : World) (ho : Own shDisk w B0 cs d G) (hs : shDisk.sz d ≤ 1048576) (hok : implOkB d = false) :
    Calls Try.prog 8 #[.agg cs.toArray, .int .i64 r] w fun e w' => e = .returned (.tuple #[.agg #[.int .i64 0, .int .i64 0, .int .i64 0, .slice none 0 0, .slice none 0 0, .slice none 0 0], .bool false]) ∧ Below w.heap.size w w' := by
  obtain ⟨a3, n3, c3, F3, a4, n4, c4, F4, a5, n5, c5, F5, rfl, _, o3, o4, o5⟩ := openO_Disk ho
  obtain ⟨x0, e0⟩ : ∃ x : Int, x = d.1 := ⟨_, rfl⟩
  obtain ⟨x1, e1⟩ : ∃ x : Int, x = d.2.1 := ⟨_, rfl⟩
  obtain ⟨x2, e2⟩ : ∃ x : Int, x = d.2.2.1 := ⟨_, rfl⟩
  have qok : Hid (∀ w', Below w.heap.size w w' → Calls Try.prog 22 #[.agg #[.int .i64 x0, .int .i64 x1, .int .i64 x2, .slice a3 n3 c3, .slice a4 n4 c4, .slice a5 n5 c5]] w' fun e w'' => e = .returned (.bool false) ∧ Below w'.heap.size w' w'') := fun w' h' => by
    rw [e0, e1, e2, ← hok]; exact implOk_ok _ d w' (ho.reads.later h') hs
  rw [← e0, ← e1, ← e2]
  obtain ⟨W1, hW1⟩ : ∃ W, W = (w.alloc (.cells #[.int .i64 x0, .int .i64 x1, .int .i64 x2, .slice a3 n3 c3, .slice a4 n4 c4, .slice a5 n5 c5] 32)).alloc (.cells #[.int .i64 0, .int .i64 0, .int .i64 0, .slice none 0 0, .slice none 0 0, .slice none 0 0] 32) := ⟨_, rfl⟩
  have bW1 : Below w.heap.size w W1 := by rw [hW1]; exact ((Below.refl _ _).alloc (Nat.le_refl _) _).alloc (by simp) _
  have zW1 : w.heap.size + 1 < W1.heap.size := by rw [hW1]; simp
  have hbd : W1.heap[w.heap.size]? = some (.cells #[.int .i64 x0, .int .i64 x1, .int .i64 x2, .slice a3 n3 c3, .slice a4 n4 c4, .slice a5 n5 c5] 32 (0, 0)) := by rw [hW1]; exact (heap_alloc_old _ _ (by simp)).trans (heap_alloc_new w _)
  have hbr : W1.heap[w.heap.size + 1]? = some (.cells #[.int .i64 0, .int .i64 0, .int .i64 0, .slice none 0 0, .slice none 0 0, .slice none 0 0] 32 (0, 0)) := by
    rw [hW1]
    have := heap_alloc_new (w.alloc (.cells #[.int .i64 x0, .int .i64 x1, .int .i64 x2, .slice a3 n3 c3, .slice a4 n4 c4, .slice a5 n5 c5] 32)) (.cells #[.int .i64 0, .int .i64 0, .int .i64 0, .slice none 0 0, .slice none 0 0, .slice none 0 0] 32)
    simpa using this
  have HW1 : Hid (W1 = (w.alloc (.cells #[.int .i64 x0, .int .i64 x1, .int .i64 x2, .slice a3 n3 c3, .slice a4 n4 c4, .slice a5 n5 c5] 32)).alloc (.cells #[.int .i64 0, .int .i64 0, .int .i64 0, .slice none 0 0, .slice none 0 0, .slice none 0 0] 32)) := hW1
  have BX : Hid (∀ w', Below W1.heap.size W1 w' → w'.heap[w.heap.size]? = some (.cells #[.int .i64 x0, .int .i64 x1, .int .i64 x2, .slice a3 n3 c3, .slice a4 n4 c4, .slice a5 n5 c5] 32 (0, 0)) ∧ w'.heap[w.heap.size + 1]? = some (.cells #[.int .i64 0, .int .i64 0, .int .i64 0, .slice none 0 0, .slice none 0 0, .slice none 0 0] 32 (0, 0))) := fun w' h' => ⟨(h'.block _ (by omega)).trans hbd, (h'.block _ zW1).trans hbr⟩
  have HE : Hid (x0 = d.1 ∧ x1 = d.2.1 ∧ x2 = d.2.2.1) := ⟨e0, e1, e2⟩
  clear ho hs o3 o4 o5 e0 e1 e2 hok hW1 hbd hbr
  go_enter Try.func8, Try.ntmps8
  go_wp2_with fail
  rw [← HW1.out]
  refine (qok.out _ bW1).mono ?_
  rintro e w1 ⟨rfl, hb1⟩
  have b1 := bW1.trans (hb1.mono bW1.size)
  obtain ⟨hd, hz⟩ := BX.out w1 hb1
  have z1 := hb1.size
  have m0 : w1.cell? ⟨w.heap.size + 1, 0, none⟩ = some (.int .i64 0) := box_cell hz rfl
  have m1 : w1.cell? ⟨w.heap.size + 1, 1, none⟩ = some (.int .i64 0) := box_cell hz rfl
  have m2 : w1.cell? ⟨w.heap.size + 1, 2, none⟩ = some (.int .i64 0) := box_cell hz rfl
  have m3 : w1.cell? ⟨w.heap.size + 1, 3, none⟩ = some (.slice none 0 0) := box_cell hz rfl
  have m4 : w1.cell? ⟨w.heap.size + 1, 4, none⟩ = some (.slice none 0 0) := box_cell hz rfl
  have m5 : w1.cell? ⟨w.heap.size + 1, 5, none⟩ = some (.slice none 0 0) := box_cell hz rfl
  have u0 : w1.frozen? ⟨w.heap.size + 1, 0, none⟩ = false := box_frozen hz
  have u1 : w1.frozen? ⟨w.heap.size + 1, 1, none⟩ = false := box_frozen hz
  have u2 : w1.frozen? ⟨w.heap.size + 1, 2, none⟩ = false := box_frozen hz
  have u3 : w1.frozen? ⟨w.heap.size + 1, 3, none⟩ = false := box_frozen hz
  have u4 : w1.frozen? ⟨w.heap.size + 1, 4, none⟩ = false := box_frozen hz
  have u5 : w1.frozen? ⟨w.heap.size + 1, 5, none⟩ = false := box_frozen hz
  have hfin : ∃ X, X = ((((((w1.setCell ⟨w.heap.size + 1, 0, none⟩ (.int .i64 0)).setCell ⟨w.heap.size + 1, 1, none⟩ (.int .i64 0)).setCell ⟨w.heap.size + 1, 2, none⟩ (.int .i64 0)).setCell ⟨w.heap.size + 1, 3, none⟩ (.slice none 0 0)).setCell ⟨w.heap.size + 1, 4, none⟩ (.slice none 0 0)).setCell ⟨w.heap.size + 1, 5, none⟩ (.slice none 0 0)) ∧ Below w.heap.size w X ∧ X.heap[w.heap.size + 1]? = some (.cells #[.int .i64 0, .int .i64 0, .int .i64 0, .slice none 0 0, .slice none 0 0, .slice none 0 0] 32 (0, 0)) := ⟨_, rfl, ((((((b1).setCell (by show w.heap.size ≤ w.heap.size + 1; omega) _).setCell (by show w.heap.size ≤ w.heap.size + 1; omega) _).setCell (by show w.heap.size ≤ w.heap.size + 1; omega) _).setCell (by show w.heap.size ≤ w.heap.size + 1; omega) _).setCell (by show w.heap.size ≤ w.heap.size + 1; omega) _).setCell (by show w.heap.size ≤ w.heap.size + 1; omega) _, by rw [(box_set (j := 5) (.slice none 0 0) (box_set (j := 4) (.slice none 0 0) (box_set (j := 3) (.slice none 0 0) (box_set (j := 2) (.int .i64 0) (box_set (j := 1) (.int .i64 0) (box_set (j := 0) (.int .i64 0) hz))))))]; rfl⟩
  obtain ⟨WF, hWF, bF, xF⟩ := hfin
  have f0 : WF.cell? ⟨w.heap.size + 1, 0, none⟩ = some (.int .i64 0) := box_cell xF rfl
  have f1 : WF.cell? ⟨w.heap.size + 1, 1, none⟩ = some (.int .i64 0) := box_cell xF rfl
  have f2 : WF.cell? ⟨w.heap.size + 1, 2, none⟩ = some (.int .i64 0) := box_cell xF rfl
  have f3 : WF.cell? ⟨w.heap.size + 1, 3, none⟩ = some (.slice none 0 0) := box_cell xF rfl
  have f4 : WF.cell? ⟨w.heap.size + 1, 4, none⟩ = some (.slice none 0 0) := box_cell xF rfl
  have f5 : WF.cell? ⟨w.heap.size + 1, 5, none⟩ = some (.slice none 0 0) := box_cell xF rfl
  have HF : Hid (WF = ((((((w1.setCell ⟨w.heap.size + 1, 0, none⟩ (.int .i64 0)).setCell ⟨w.heap.size + 1, 1, none⟩ (.int .i64 0)).setCell ⟨w.heap.size + 1, 2, none⟩ (.int .i64 0)).setCell ⟨w.heap.size + 1, 3, none⟩ (.slice none 0 0)).setCell ⟨w.heap.size + 1, 4, none⟩ (.slice none 0 0)).setCell ⟨w.heap.size + 1, 5, none⟩ (.slice none 0 0))) := hWF
  clear hb1 hd hz hWF xF
  go_wp2
  rw [← HF.out]
  exact bodyPost_ret (v := .tuple #[.agg #[.int .i64 0, .int .i64 0, .int .i64 0, .slice none 0 0, .slice none 0 0, .slice none 0 0], .bool false]) (by simp [results, Try.results8, go_sem, f0, f1, f2, f3, f4, f5]) rfl ⟨rfl, bF⟩

set_option maxRecDepth 100000 in
set_option maxHeartbeats 4000000 in
theorem implDiskRoom_no (cs : List Value) (d : shDisk.D) (r : Int) (B0 : Nat) (G : List Nat) (w : World) (ho : Own shDisk w B0 cs d G) (hs : shDisk.sz d ≤ 1048576) (hok : implOkB d = true) (hok2 : implOkB (roomD d r) = false) :
    Calls Try.prog 8 #[.agg cs.toArray, .int .i64 r] w fun e w' => e = .returned (.tuple #[.agg #[.int .i64 0, .int .i64 0, .int .i64 0, .slice none 0 0, .slice none 0 0, .slice none 0 0], .bool false]) ∧ Below w.heap.size w w' := by
  obtain ⟨a3, n3, c3, F3, a4, n4, c4, F4, a5, n5, c5, F5, rfl, _, o3, o4, o5⟩ := openO_Disk ho
  obtain ⟨x0, e0⟩ : ∃ x : Int, x = d.1 := ⟨_, rfl⟩
  obtain ⟨x1, e1⟩ : ∃ x : Int, x = d.2.1 := ⟨_, rfl⟩
  obtain ⟨x2, e2⟩ : ∃ x : Int, x = d.2.2.1 := ⟨_, rfl⟩
  have qok : Hid (∀ w', Below w.heap.size w w' → Calls Try.prog 22 #[.agg #[.int .i64 x0, .int .i64 x1, .int .i64 x2, .slice a3 n3 c3, .slice a4 n4 c4, .slice a5 n5 c5]] w' fun e w'' => e = .returned (.bool true) ∧ Below w'.heap.size w' w'') := fun w' h' => by
    rw [e0, e1, e2, ← hok]; exact implOk_ok _ d w' (ho.reads.later h') hs
  have qrt : Hid (∀ w', Below w.heap.size w w' → Calls Try.prog 23 #[.agg #[.int .i64 r, .int .i64 x1, .int .i64 x2, .slice a3 n3 c3, .slice a4 n4 c4, .slice a5 n5 c5]] w' fun e w'' => e = .returned (.tuple #[.agg #[.int .i64 0, .int .i64 0, .int .i64 0, .slice none 0 0, .slice none 0 0, .slice none 0 0], .bool false]) ∧ Below w'.heap.size w' w'') := fun w' h' => by
    have hk : Own shDisk w' B0 [.int .i64 r, .int .i64 x1, .int .i64 x2, .slice a3 n3 c3, .slice a4 n4 c4, .slice a5 n5 c5] (roomD d r) (F3 ++ (F4 ++ (F5 ++ []))) := by
      have := own_Disk (d := (roomD d r)) (o3.later h') (o4.later h') (o5.later h')
      rw [e1, e2]; exact this
    exact copyRight_false _ _ B0 _ w' hk (by rw [sz_Disk] at hs ⊢; exact hs) hok2
  rw [← e0, ← e1, ← e2]
  obtain ⟨W1, hW1⟩ : ∃ W, W = (w.alloc (.cells #[.int .i64 x0, .int .i64 x1, .int .i64 x2, .slice a3 n3 c3, .slice a4 n4 c4, .slice a5 n5 c5] 32)).alloc (.cells #[.int .i64 0, .int .i64 0, .int .i64 0, .slice none 0 0, .slice none 0 0, .slice none 0 0] 32) := ⟨_, rfl⟩
  have bW1 : Below w.heap.size w W1 := by rw [hW1]; exact ((Below.refl _ _).alloc (Nat.le_refl _) _).alloc (by simp) _
  have zW1 : w.heap.size + 1 < W1.heap.size := by rw [hW1]; simp
  have hbd : W1.heap[w.heap.size]? = some (.cells #[.int .i64 x0, .int .i64 x1, .int .i64 x2, .slice a3 n3 c3, .slice a4 n4 c4, .slice a5 n5 c5] 32 (0, 0)) := by rw [hW1]; exact (heap_alloc_old _ _ (by simp)).trans (heap_alloc_new w _)
  have hbr : W1.heap[w.heap.size + 1]? = some (.cells #[.int .i64 0, .int .i64 0, .int .i64 0, .slice none 0 0, .slice none 0 0, .slice none 0 0] 32 (0, 0)) := by
    rw [hW1]
    have := heap_alloc_new (w.alloc (.cells #[.int .i64 x0, .int .i64 x1, .int .i64 x2, .slice a3 n3 c3, .slice a4 n4 c4, .slice a5 n5 c5] 32)) (.cells #[.int .i64 0, .int .i64 0, .int .i64 0, .slice none 0 0, .slice none 0 0, .slice none 0 0] 32)
    simpa using this
  have HW1 : Hid (W1 = (w.alloc (.cells #[.int .i64 x0, .int .i64 x1, .int .i64 x2, .slice a3 n3 c3, .slice a4 n4 c4, .slice a5 n5 c5] 32)).alloc (.cells #[.int .i64 0, .int .i64 0, .int .i64 0, .slice none 0 0, .slice none 0 0, .slice none 0 0] 32)) := hW1
  have BX : Hid (∀ w', Below W1.heap.size W1 w' → w'.heap[w.heap.size]? = some (.cells #[.int .i64 x0, .int .i64 x1, .int .i64 x2, .slice a3 n3 c3, .slice a4 n4 c4, .slice a5 n5 c5] 32 (0, 0)) ∧ w'.heap[w.heap.size + 1]? = some (.cells #[.int .i64 0, .int .i64 0, .int .i64 0, .slice none 0 0, .slice none 0 0, .slice none 0 0] 32 (0, 0))) := fun w' h' => ⟨(h'.block _ (by omega)).trans hbd, (h'.block _ zW1).trans hbr⟩
  have HE : Hid (x0 = d.1 ∧ x1 = d.2.1 ∧ x2 = d.2.2.1) := ⟨e0, e1, e2⟩
  clear ho hs o3 o4 o5 e0 e1 e2 hok hW1 hbd hbr hok2
  go_enter Try.func8, Try.ntmps8
  go_wp2_with fail
  rw [← HW1.out]
  refine (qok.out _ bW1).mono ?_
  rintro e w1 ⟨rfl, hb1⟩
  have b1 := bW1.trans (hb1.mono bW1.size)
  obtain ⟨hd, hz⟩ := BX.out w1 hb1
  have z1 := hb1.size
  have y0 : w1.cell? ⟨w.heap.size, 0, none⟩ = some (.int .i64 x0) := box_cell hd rfl
  have y1 : w1.cell? ⟨w.heap.size, 1, none⟩ = some (.int .i64 x1) := box_cell hd rfl
  have y2 : w1.cell? ⟨w.heap.size, 2, none⟩ = some (.int .i64 x2) := box_cell hd rfl
  have y3 : w1.cell? ⟨w.heap.size, 3, none⟩ = some (.slice a3 n3 c3) := box_cell hd rfl
  have y4 : w1.cell? ⟨w.heap.size, 4, none⟩ = some (.slice a4 n4 c4) := box_cell hd rfl
  have y5 : w1.cell? ⟨w.heap.size, 5, none⟩ = some (.slice a5 n5 c5) := box_cell hd rfl
  have g0 : w1.frozen? ⟨w.heap.size, 0, none⟩ = false := box_frozen hd
  obtain ⟨U, hU⟩ : ∃ U, U = w1.setCell ⟨w.heap.size, 0, none⟩ (.int .i64 r) := ⟨_, rfl⟩
  have bU : Below w.heap.size w U := by rw [hU]; exact b1.setCell (Nat.le_refl _) _
  have zU : U.heap.size = w1.heap.size := by rw [hU]; simp
  have hzU : U.heap[w.heap.size + 1]? = some (.cells #[.int .i64 0, .int .i64 0, .int .i64 0, .slice none 0 0, .slice none 0 0, .slice none 0 0] 32 (0, 0)) := by rw [hU]; exact (box_other _ (by omega)).trans hz
  have HU : Hid (U = w1.setCell ⟨w.heap.size, 0, none⟩ (.int .i64 r) ∧ w.heap.size + 1 < U.heap.size) := ⟨hU, by omega⟩
  have zlt : w.heap.size < w1.heap.size := by omega
  clear hb1 hd hz hU
  go_wp2_with fail
  rw [← HU.out.1]
  refine (qrt.out _ bU).mono ?_
  rintro e w2 ⟨rfl, hb2⟩
  have b2 := bU.trans (hb2.mono bU.size)
  have hz := (hb2.block _ HU.out.2).trans hzU
  have z2 := hb2.size
  have m0 : w2.cell? ⟨w.heap.size + 1, 0, none⟩ = some (.int .i64 0) := box_cell hz rfl
  have m1 : w2.cell? ⟨w.heap.size + 1, 1, none⟩ = some (.int .i64 0) := box_cell hz rfl
  have m2 : w2.cell? ⟨w.heap.size + 1, 2, none⟩ = some (.int .i64 0) := box_cell hz rfl
  have m3 : w2.cell? ⟨w.heap.size + 1, 3, none⟩ = some (.slice none 0 0) := box_cell hz rfl
  have m4 : w2.cell? ⟨w.heap.size + 1, 4, none⟩ = some (.slice none 0 0) := box_cell hz rfl
  have m5 : w2.cell? ⟨w.heap.size + 1, 5, none⟩ = some (.slice none 0 0) := box_cell hz rfl
  have u0 : w2.frozen? ⟨w.heap.size + 1, 0, none⟩ = false := box_frozen hz
  have u1 : w2.frozen? ⟨w.heap.size + 1, 1, none⟩ = false := box_frozen hz
  have u2 : w2.frozen? ⟨w.heap.size + 1, 2, none⟩ = false := box_frozen hz
  have u3 : w2.frozen? ⟨w.heap.size + 1, 3, none⟩ = false := box_frozen hz
  have u4 : w2.frozen? ⟨w.heap.size + 1, 4, none⟩ = false := box_frozen hz
  have u5 : w2.frozen? ⟨w.heap.size + 1, 5, none⟩ = false := box_frozen hz
  have hfin : ∃ X, X = ((((((w2.setCell ⟨w.heap.size + 1, 0, none⟩ (.int .i64 0)).setCell ⟨w.heap.size + 1, 1, none⟩ (.int .i64 0)).setCell ⟨w.heap.size + 1, 2, none⟩ (.int .i64 0)).setCell ⟨w.heap.size + 1, 3, none⟩ (.slice none 0 0)).setCell ⟨w.heap.size + 1, 4, none⟩ (.slice none 0 0)).setCell ⟨w.heap.size + 1, 5, none⟩ (.slice none 0 0)) ∧ Below w.heap.size w X ∧ X.heap[w.heap.size + 1]? = some (.cells #[.int .i64 0, .int .i64 0, .int .i64 0, .slice none 0 0, .slice none 0 0, .slice none 0 0] 32 (0, 0)) := ⟨_, rfl, ((((((b2).setCell (by show w.heap.size ≤ w.heap.size + 1; omega) _).setCell (by show w.heap.size ≤ w.heap.size + 1; omega) _).setCell (by show w.heap.size ≤ w.heap.size + 1; omega) _).setCell (by show w.heap.size ≤ w.heap.size + 1; omega) _).setCell (by show w.heap.size ≤ w.heap.size + 1; omega) _).setCell (by show w.heap.size ≤ w.heap.size + 1; omega) _, by rw [(box_set (j := 5) (.slice none 0 0) (box_set (j := 4) (.slice none 0 0) (box_set (j := 3) (.slice none 0 0) (box_set (j := 2) (.int .i64 0) (box_set (j := 1) (.int .i64 0) (box_set (j := 0) (.int .i64 0) hz))))))]; rfl⟩
  obtain ⟨WF, hWF, bF, xF⟩ := hfin
  have f0 : WF.cell? ⟨w.heap.size + 1, 0, none⟩ = some (.int .i64 0) := box_cell xF rfl
  have f1 : WF.cell? ⟨w.heap.size + 1, 1, none⟩ = some (.int .i64 0) := box_cell xF rfl
  have f2 : WF.cell? ⟨w.heap.size + 1, 2, none⟩ = some (.int .i64 0) := box_cell xF rfl
  have f3 : WF.cell? ⟨w.heap.size + 1, 3, none⟩ = some (.slice none 0 0) := box_cell xF rfl
  have f4 : WF.cell? ⟨w.heap.size + 1, 4, none⟩ = some (.slice none 0 0) := box_cell xF rfl
  have f5 : WF.cell? ⟨w.heap.size + 1, 5, none⟩ = some (.slice none 0 0) := box_cell xF rfl
  have HF : Hid (WF = ((((((w2.setCell ⟨w.heap.size + 1, 0, none⟩ (.int .i64 0)).setCell ⟨w.heap.size + 1, 1, none⟩ (.int .i64 0)).setCell ⟨w.heap.size + 1, 2, none⟩ (.int .i64 0)).setCell ⟨w.heap.size + 1, 3, none⟩ (.slice none 0 0)).setCell ⟨w.heap.size + 1, 4, none⟩ (.slice none 0 0)).setCell ⟨w.heap.size + 1, 5, none⟩ (.slice none 0 0))) := hWF
  clear hb2 hz hzU hWF xF y0 y1 y2 y3 y4 y5 zU
  go_wp2
  rw [← HF.out]
  exact bodyPost_ret (v := .tuple #[.agg #[.int .i64 0, .int .i64 0, .int .i64 0, .slice none 0 0, .slice none 0 0, .slice none 0 0], .bool false]) (by simp [results, Try.results8, go_sem, f0, f1, f2, f3, f4, f5]) rfl ⟨rfl, bF⟩

set_option maxRecDepth 100000 in
set_option maxHeartbeats 4000000 in
theorem implDiskRoom_yes (cs : List Value) (d : shDisk.D) (r : Int) (B0 : Nat) (G : List Nat) (w : World) (ho : Own shDisk w B0 cs d G) (hs : shDisk.sz d ≤ 1048576) (hok : implOkB d = true) (hok2 : implOkB (roomD d r) = true) :
    Calls Try.prog 8 #[.agg cs.toArray, .int .i64 r] w fun e w' => ∃ cs' F, e = .returned (.tuple #[.agg cs'.toArray, .bool true]) ∧ Own shDisk w' w.heap.size cs' (roomD d r) F ∧ F.Nodup ∧ Below w.heap.size w w' := by
  obtain ⟨a3, n3, c3, F3, a4, n4, c4, F4, a5, n5, c5, F5, rfl, _, o3, o4, o5⟩ := openO_Disk ho
  obtain ⟨x0, e0⟩ : ∃ x : Int, x = d.1 := ⟨_, rfl⟩
  obtain ⟨x1, e1⟩ : ∃ x : Int, x = d.2.1 := ⟨_, rfl⟩
  obtain ⟨x2, e2⟩ : ∃ x : Int, x = d.2.2.1 := ⟨_, rfl⟩
  have qok : Hid (∀ w', Below w.heap.size w w' → Calls Try.prog 22 #[.agg #[.int .i64 x0, .int .i64 x1, .int .i64 x2, .slice a3 n3 c3, .slice a4 n4 c4, .slice a5 n5 c5]] w' fun e w'' => e = .returned (.bool true) ∧ Below w'.heap.size w' w'') := fun w' h' => by
    rw [e0, e1, e2, ← hok]; exact implOk_ok _ d w' (ho.reads.later h') hs
  have qrt : Hid (∀ w', Below w.heap.size w w' → Calls Try.prog 23 #[.agg #[.int .i64 r, .int .i64 x1, .int .i64 x2, .slice a3 n3 c3, .slice a4 n4 c4, .slice a5 n5 c5]] w' fun e w'' => ∃ cs' F, e = .returned (.tuple #[.agg cs'.toArray, .bool true]) ∧ Own shDisk w'' w'.heap.size cs' (roomD d r) F ∧ F.Nodup ∧ Below w'.heap.size w' w'') := fun w' h' => by
    have hk : Own shDisk w' B0 [.int .i64 r, .int .i64 x1, .int .i64 x2, .slice a3 n3 c3, .slice a4 n4 c4, .slice a5 n5 c5] (roomD d r) (F3 ++ (F4 ++ (F5 ++ []))) := by
      have := own_Disk (d := (roomD d r)) (o3.later h') (o4.later h') (o5.later h')
      rw [e1, e2]; exact this
    exact copyRight_true _ _ B0 _ w' hk (by rw [sz_Disk] at hs ⊢; exact hs) hok2
  rw [← e0, ← e1, ← e2]
  obtain ⟨W1, hW1⟩ : ∃ W, W = (w.alloc (.cells #[.int .i64 x0, .int .i64 x1, .int .i64 x2, .slice a3 n3 c3, .slice a4 n4 c4, .slice a5 n5 c5] 32)).alloc (.cells #[.int .i64 0, .int .i64 0, .int .i64 0, .slice none 0 0, .slice none 0 0, .slice none 0 0] 32) := ⟨_, rfl⟩
  have bW1 : Below w.heap.size w W1 := by rw [hW1]; exact ((Below.refl _ _).alloc (Nat.le_refl _) _).alloc (by simp) _
  have zW1 : w.heap.size + 1 < W1.heap.size := by rw [hW1]; simp
  have hbd : W1.heap[w.heap.size]? = some (.cells #[.int .i64 x0, .int .i64 x1, .int .i64 x2, .slice a3 n3 c3, .slice a4 n4 c4, .slice a5 n5 c5] 32 (0, 0)) := by rw [hW1]; exact (heap_alloc_old _ _ (by simp)).trans (heap_alloc_new w _)
  have hbr : W1.heap[w.heap.size + 1]? = some (.cells #[.int .i64 0, .int .i64 0, .int .i64 0, .slice none 0 0, .slice none 0 0, .slice none 0 0] 32 (0, 0)) := by
    rw [hW1]
    have := heap_alloc_new (w.alloc (.cells #[.int .i64 x0, .int .i64 x1, .int .i64 x2, .slice a3 n3 c3, .slice a4 n4 c4, .slice a5 n5 c5] 32)) (.cells #[.int .i64 0, .int .i64 0, .int .i64 0, .slice none 0 0, .slice none 0 0, .slice none 0 0] 32)
    simpa using this
  have HW1 : Hid (W1 = (w.alloc (.cells #[.int .i64 x0, .int .i64 x1, .int .i64 x2, .slice a3 n3 c3, .slice a4 n4 c4, .slice a5 n5 c5] 32)).alloc (.cells #[.int .i64 0, .int .i64 0, .int .i64 0, .slice none 0 0, .slice none 0 0, .slice none 0 0] 32)) := hW1
  have BX : Hid (∀ w', Below W1.heap.size W1 w' → w'.heap[w.heap.size]? = some (.cells #[.int .i64 x0, .int .i64 x1, .int .i64 x2, .slice a3 n3 c3, .slice a4 n4 c4, .slice a5 n5 c5] 32 (0, 0)) ∧ w'.heap[w.heap.size + 1]? = some (.cells #[.int .i64 0, .int .i64 0, .int .i64 0, .slice none 0 0, .slice none 0 0, .slice none 0 0] 32 (0, 0))) := fun w' h' => ⟨(h'.block _ (by omega)).trans hbd, (h'.block _ zW1).trans hbr⟩
  have HE : Hid (x0 = d.1 ∧ x1 = d.2.1 ∧ x2 = d.2.2.1) := ⟨e0, e1, e2⟩
  clear ho hs o3 o4 o5 e0 e1 e2 hok hW1 hbd hbr hok2
  go_enter Try.func8, Try.ntmps8
  go_wp2_with fail
  rw [← HW1.out]
  refine (qok.out _ bW1).mono ?_
  rintro e w1 ⟨rfl, hb1⟩
  have b1 := bW1.trans (hb1.mono bW1.size)
  obtain ⟨hd, hz⟩ := BX.out w1 hb1
  have z1 := hb1.size
  have y0 : w1.cell? ⟨w.heap.size, 0, none⟩ = some (.int .i64 x0) := box_cell hd rfl
  have y1 : w1.cell? ⟨w.heap.size, 1, none⟩ = some (.int .i64 x1) := box_cell hd rfl
  have y2 : w1.cell? ⟨w.heap.size, 2, none⟩ = some (.int .i64 x2) := box_cell hd rfl
  have y3 : w1.cell? ⟨w.heap.size, 3, none⟩ = some (.slice a3 n3 c3) := box_cell hd rfl
  have y4 : w1.cell? ⟨w.heap.size, 4, none⟩ = some (.slice a4 n4 c4) := box_cell hd rfl
  have y5 : w1.cell? ⟨w.heap.size, 5, none⟩ = some (.slice a5 n5 c5) := box_cell hd rfl
  have g0 : w1.frozen? ⟨w.heap.size, 0, none⟩ = false := box_frozen hd
  obtain ⟨U, hU⟩ : ∃ U, U = w1.setCell ⟨w.heap.size, 0, none⟩ (.int .i64 r) := ⟨_, rfl⟩
  have bU : Below w.heap.size w U := by rw [hU]; exact b1.setCell (Nat.le_refl _) _
  have zU : U.heap.size = w1.heap.size := by rw [hU]; simp
  have hzU : U.heap[w.heap.size + 1]? = some (.cells #[.int .i64 0, .int .i64 0, .int .i64 0, .slice none 0 0, .slice none 0 0, .slice none 0 0] 32 (0, 0)) := by rw [hU]; exact (box_other _ (by omega)).trans hz
  have HU : Hid (U = w1.setCell ⟨w.heap.size, 0, none⟩ (.int .i64 r) ∧ w.heap.size + 1 < U.heap.size) := ⟨hU, by omega⟩
  have zlt : w.heap.size < w1.heap.size := by omega
  clear hb1 hd hz hU
  go_wp2_with fail
  rw [← HU.out.1]
  refine (qrt.out _ bU).mono ?_
  rintro e w2 ⟨cs', F, he, p, nd, hb2⟩
  have b2 := bU.trans (hb2.mono bU.size)
  have hz2 := (hb2.block _ HU.out.2).trans hzU
  have z2 := hb2.size
  obtain ⟨p3, r3, s3, p4, r4, s4, p5, r5, s5, hcs, _⟩ := open_Disk p.reads
  have hcs' : cs' = [.int .i64 r, .int .i64 x1, .int .i64 x2, .slice p3 r3 s3, .slice p4 r4 s4, .slice p5 r5 s5] := hcs.trans (by rw [HE.out.2.1, HE.out.2.2]; rfl)
  clear hcs
  subst hcs'
  subst he
  have m0 : w2.cell? ⟨w.heap.size + 1, 0, none⟩ = some (.int .i64 0) := box_cell hz2 rfl
  have m1 : w2.cell? ⟨w.heap.size + 1, 1, none⟩ = some (.int .i64 0) := box_cell hz2 rfl
  have m2 : w2.cell? ⟨w.heap.size + 1, 2, none⟩ = some (.int .i64 0) := box_cell hz2 rfl
  have m3 : w2.cell? ⟨w.heap.size + 1, 3, none⟩ = some (.slice none 0 0) := box_cell hz2 rfl
  have m4 : w2.cell? ⟨w.heap.size + 1, 4, none⟩ = some (.slice none 0 0) := box_cell hz2 rfl
  have m5 : w2.cell? ⟨w.heap.size + 1, 5, none⟩ = some (.slice none 0 0) := box_cell hz2 rfl
  have u0 : w2.frozen? ⟨w.heap.size + 1, 0, none⟩ = false := box_frozen hz2
  have u1 : w2.frozen? ⟨w.heap.size + 1, 1, none⟩ = false := box_frozen hz2
  have u2 : w2.frozen? ⟨w.heap.size + 1, 2, none⟩ = false := box_frozen hz2
  have u3 : w2.frozen? ⟨w.heap.size + 1, 3, none⟩ = false := box_frozen hz2
  have u4 : w2.frozen? ⟨w.heap.size + 1, 4, none⟩ = false := box_frozen hz2
  have u5 : w2.frozen? ⟨w.heap.size + 1, 5, none⟩ = false := box_frozen hz2
  have hfin : ∃ X, X = ((((((w2.setCell ⟨w.heap.size + 1, 0, none⟩ (.int .i64 r)).setCell ⟨w.heap.size + 1, 1, none⟩ (.int .i64 x1)).setCell ⟨w.heap.size + 1, 2, none⟩ (.int .i64 x2)).setCell ⟨w.heap.size + 1, 3, none⟩ (.slice p3 r3 s3)).setCell ⟨w.heap.size + 1, 4, none⟩ (.slice p4 r4 s4)).setCell ⟨w.heap.size + 1, 5, none⟩ (.slice p5 r5 s5)) ∧ Below w.heap.size w X ∧ X.heap[w.heap.size + 1]? = some (.cells #[.int .i64 r, .int .i64 x1, .int .i64 x2, .slice p3 r3 s3, .slice p4 r4 s4, .slice p5 r5 s5] 32 (0, 0)) ∧ Own shDisk X w.heap.size [.int .i64 r, .int .i64 x1, .int .i64 x2, .slice p3 r3 s3, .slice p4 r4 s4, .slice p5 r5 s5] (roomD d r) F := ⟨_, rfl, ((((((b2).setCell (by show w.heap.size ≤ w.heap.size + 1; omega) _).setCell (by show w.heap.size ≤ w.heap.size + 1; omega) _).setCell (by show w.heap.size ≤ w.heap.size + 1; omega) _).setCell (by show w.heap.size ≤ w.heap.size + 1; omega) _).setCell (by show w.heap.size ≤ w.heap.size + 1; omega) _).setCell (by show w.heap.size ≤ w.heap.size + 1; omega) _, by rw [(box_set (j := 5) (.slice p5 r5 s5) (box_set (j := 4) (.slice p4 r4 s4) (box_set (j := 3) (.slice p3 r3 s3) (box_set (j := 2) (.int .i64 x2) (box_set (j := 1) (.int .i64 x1) (box_set (j := 0) (.int .i64 r) hz2))))))]; rfl, (p.keep fun y hy => ((box_other (b := w.heap.size + 1) (j := 5) (.slice p5 r5 s5) (by have := (p.lt y hy).1; have := HU.out.2; omega)).trans ((box_other (b := w.heap.size + 1) (j := 4) (.slice p4 r4 s4) (by have := (p.lt y hy).1; have := HU.out.2; omega)).trans ((box_other (b := w.heap.size + 1) (j := 3) (.slice p3 r3 s3) (by have := (p.lt y hy).1; have := HU.out.2; omega)).trans ((box_other (b := w.heap.size + 1) (j := 2) (.int .i64 x2) (by have := (p.lt y hy).1; have := HU.out.2; omega)).trans ((box_other (b := w.heap.size + 1) (j := 1) (.int .i64 x1) (by have := (p.lt y hy).1; have := HU.out.2; omega)).trans (box_other (b := w.heap.size + 1) (j := 0) (.int .i64 r) (by have := (p.lt y hy).1; have := HU.out.2; omega)))))))).base bU.size⟩
  obtain ⟨WF, hWF, bF, xF, oF⟩ := hfin
  have f0 : WF.cell? ⟨w.heap.size + 1, 0, none⟩ = some (.int .i64 r) := box_cell xF rfl
  have f1 : WF.cell? ⟨w.heap.size + 1, 1, none⟩ = some (.int .i64 x1) := box_cell xF rfl
  have f2 : WF.cell? ⟨w.heap.size + 1, 2, none⟩ = some (.int .i64 x2) := box_cell xF rfl
  have f3 : WF.cell? ⟨w.heap.size + 1, 3, none⟩ = some (.slice p3 r3 s3) := box_cell xF rfl
  have f4 : WF.cell? ⟨w.heap.size + 1, 4, none⟩ = some (.slice p4 r4 s4) := box_cell xF rfl
  have f5 : WF.cell? ⟨w.heap.size + 1, 5, none⟩ = some (.slice p5 r5 s5) := box_cell xF rfl
  have HF : Hid (WF = ((((((w2.setCell ⟨w.heap.size + 1, 0, none⟩ (.int .i64 r)).setCell ⟨w.heap.size + 1, 1, none⟩ (.int .i64 x1)).setCell ⟨w.heap.size + 1, 2, none⟩ (.int .i64 x2)).setCell ⟨w.heap.size + 1, 3, none⟩ (.slice p3 r3 s3)).setCell ⟨w.heap.size + 1, 4, none⟩ (.slice p4 r4 s4)).setCell ⟨w.heap.size + 1, 5, none⟩ (.slice p5 r5 s5)) ∧ Own shDisk WF w.heap.size [.int .i64 r, .int .i64 x1, .int .i64 x2, .slice p3 r3 s3, .slice p4 r4 s4, .slice p5 r5 s5] (roomD d r) F ∧ F.Nodup) := ⟨hWF, oF, nd⟩
  clear hWF xF oF p nd hb2 hz2 hzU zU y0 y1 y2 y3 y4 y5
  go_wp2
  rw [← HF.out.1]
  exact bodyPost_ret (v := .tuple #[.agg #[.int .i64 r, .int .i64 x1, .int .i64 x2, .slice p3 r3 s3, .slice p4 r4 s4, .slice p5 r5 s5], .bool true]) (by simp [results, Try.results8, go_sem, f0, f1, f2, f3, f4, f5]) rfl ⟨_, F, rfl, HF.out.2.1, HF.out.2.2, bF⟩

set_option maxRecDepth 100000 in
set_option maxHeartbeats 4000000 in
theorem implDiskFuse_bad (cs : List Value) (d : shDisk.D) (r : Int) (B0 : Nat) (G : List Nat) (w : World) (ho : Own shDisk w B0 cs d G) (hs : shDisk.sz d ≤ 1048576) (hok : implOkB d = false) :
    Calls Try.prog 13 #[.agg cs.toArray, .int .i64 r] w fun e w' => e = .returned (.tuple #[.agg #[.int .i64 0, .int .i64 0, .int .i64 0, .slice none 0 0, .slice none 0 0, .slice none 0 0], .bool false]) ∧ Below w.heap.size w w' := by
  obtain ⟨a3, n3, c3, F3, a4, n4, c4, F4, a5, n5, c5, F5, rfl, _, o3, o4, o5⟩ := openO_Disk ho
  obtain ⟨x0, e0⟩ : ∃ x : Int, x = d.1 := ⟨_, rfl⟩
  obtain ⟨x1, e1⟩ : ∃ x : Int, x = d.2.1 := ⟨_, rfl⟩
  obtain ⟨x2, e2⟩ : ∃ x : Int, x = d.2.2.1 := ⟨_, rfl⟩
  have qok : Hid (∀ w', Below w.heap.size w w' → Calls Try.prog 22 #[.agg #[.int .i64 x0, .int .i64 x1, .int .i64 x2, .slice a3 n3 c3, .slice a4 n4 c4, .slice a5 n5 c5]] w' fun e w'' => e = .returned (.bool false) ∧ Below w'.heap.size w' w'') := fun w' h' => by
    rw [e0, e1, e2, ← hok]; exact implOk_ok _ d w' (ho.reads.later h') hs
  rw [← e0, ← e1, ← e2]
  obtain ⟨W1, hW1⟩ : ∃ W, W = (w.alloc (.cells #[.int .i64 x0, .int .i64 x1, .int .i64 x2, .slice a3 n3 c3, .slice a4 n4 c4, .slice a5 n5 c5] 32)).alloc (.cells #[.int .i64 0, .int .i64 0, .int .i64 0, .slice none 0 0, .slice none 0 0, .slice none 0 0] 32) := ⟨_, rfl⟩
  have bW1 : Below w.heap.size w W1 := by rw [hW1]; exact ((Below.refl _ _).alloc (Nat.le_refl _) _).alloc (by simp) _
  have zW1 : w.heap.size + 1 < W1.heap.size := by rw [hW1]; simp
  have hbd : W1.heap[w.heap.size]? = some (.cells #[.int .i64 x0, .int .i64 x1, .int .i64 x2, .slice a3 n3 c3, .slice a4 n4 c4, .slice a5 n5 c5] 32 (0, 0)) := by rw [hW1]; exact (heap_alloc_old _ _ (by simp)).trans (heap_alloc_new w _)
  have hbr : W1.heap[w.heap.size + 1]? = some (.cells #[.int .i64 0, .int .i64 0, .int .i64 0, .slice none 0 0, .slice none 0 0, .slice none 0 0] 32 (0, 0)) := by
    rw [hW1]
    have := heap_alloc_new (w.alloc (.cells #[.int .i64 x0, .int .i64 x1, .int .i64 x2, .slice a3 n3 c3, .slice a4 n4 c4, .slice a5 n5 c5] 32)) (.cells #[.int .i64 0, .int .i64 0, .int .i64 0, .slice none 0 0, .slice none 0 0, .slice none 0 0] 32)
    simpa using this
  have HW1 : Hid (W1 = (w.alloc (.cells #[.int .i64 x0, .int .i64 x1, .int .i64 x2, .slice a3 n3 c3, .slice a4 n4 c4, .slice a5 n5 c5] 32)).alloc (.cells #[.int .i64 0, .int .i64 0, .int .i64 0, .slice none 0 0, .slice none 0 0, .slice none 0 0] 32)) := hW1
  have BX : Hid (∀ w', Below W1.heap.size W1 w' → w'.heap[w.heap.size]? = some (.cells #[.int .i64 x0, .int .i64 x1, .int .i64 x2, .slice a3 n3 c3, .slice a4 n4 c4, .slice a5 n5 c5] 32 (0, 0)) ∧ w'.heap[w.heap.size + 1]? = some (.cells #[.int .i64 0, .int .i64 0, .int .i64 0, .slice none 0 0, .slice none 0 0, .slice none 0 0] 32 (0, 0))) := fun w' h' => ⟨(h'.block _ (by omega)).trans hbd, (h'.block _ zW1).trans hbr⟩
  have HE : Hid (x0 = d.1 ∧ x1 = d.2.1 ∧ x2 = d.2.2.1) := ⟨e0, e1, e2⟩
  clear ho hs o3 o4 o5 e0 e1 e2 hok hW1 hbd hbr
  go_enter Try.func13, Try.ntmps13
  go_wp2_with fail
  rw [← HW1.out]
  refine (qok.out _ bW1).mono ?_
  rintro e w1 ⟨rfl, hb1⟩
  have b1 := bW1.trans (hb1.mono bW1.size)
  obtain ⟨hd, hz⟩ := BX.out w1 hb1
  have z1 := hb1.size
  have m0 : w1.cell? ⟨w.heap.size + 1, 0, none⟩ = some (.int .i64 0) := box_cell hz rfl
  have m1 : w1.cell? ⟨w.heap.size + 1, 1, none⟩ = some (.int .i64 0) := box_cell hz rfl
  have m2 : w1.cell? ⟨w.heap.size + 1, 2, none⟩ = some (.int .i64 0) := box_cell hz rfl
  have m3 : w1.cell? ⟨w.heap.size + 1, 3, none⟩ = some (.slice none 0 0) := box_cell hz rfl
  have m4 : w1.cell? ⟨w.heap.size + 1, 4, none⟩ = some (.slice none 0 0) := box_cell hz rfl
  have m5 : w1.cell? ⟨w.heap.size + 1, 5, none⟩ = some (.slice none 0 0) := box_cell hz rfl
  have u0 : w1.frozen? ⟨w.heap.size + 1, 0, none⟩ = false := box_frozen hz
  have u1 : w1.frozen? ⟨w.heap.size + 1, 1, none⟩ = false := box_frozen hz
  have u2 : w1.frozen? ⟨w.heap.size + 1, 2, none⟩ = false := box_frozen hz
  have u3 : w1.frozen? ⟨w.heap.size + 1, 3, none⟩ = false := box_frozen hz
  have u4 : w1.frozen? ⟨w.heap.size + 1, 4, none⟩ = false := box_frozen hz
  have u5 : w1.frozen? ⟨w.heap.size + 1, 5, none⟩ = false := box_frozen hz
  have hfin : ∃ X, X = ((((((w1.setCell ⟨w.heap.size + 1, 0, none⟩ (.int .i64 0)).setCell ⟨w.heap.size + 1, 1, none⟩ (.int .i64 0)).setCell ⟨w.heap.size + 1, 2, none⟩ (.int .i64 0)).setCell ⟨w.heap.size + 1, 3, none⟩ (.slice none 0 0)).setCell ⟨w.heap.size + 1, 4, none⟩ (.slice none 0 0)).setCell ⟨w.heap.size + 1, 5, none⟩ (.slice none 0 0)) ∧ Below w.heap.size w X ∧ X.heap[w.heap.size + 1]? = some (.cells #[.int .i64 0, .int .i64 0, .int .i64 0, .slice none 0 0, .slice none 0 0, .slice none 0 0] 32 (0, 0)) := ⟨_, rfl, ((((((b1).setCell (by show w.heap.size ≤ w.heap.size + 1; omega) _).setCell (by show w.heap.size ≤ w.heap.size + 1; omega) _).setCell (by show w.heap.size ≤ w.heap.size + 1; omega) _).setCell (by show w.heap.size ≤ w.heap.size + 1; omega) _).setCell (by show w.heap.size ≤ w.heap.size + 1; omega) _).setCell (by show w.heap.size ≤ w.heap.size + 1; omega) _, by rw [(box_set (j := 5) (.slice none 0 0) (box_set (j := 4) (.slice none 0 0) (box_set (j := 3) (.slice none 0 0) (box_set (j := 2) (.int .i64 0) (box_set (j := 1) (.int .i64 0) (box_set (j := 0) (.int .i64 0) hz))))))]; rfl⟩
  obtain ⟨WF, hWF, bF, xF⟩ := hfin
  have f0 : WF.cell? ⟨w.heap.size + 1, 0, none⟩ = some (.int .i64 0) := box_cell xF rfl
  have f1 : WF.cell? ⟨w.heap.size + 1, 1, none⟩ = some (.int .i64 0) := box_cell xF rfl
  have f2 : WF.cell? ⟨w.heap.size + 1, 2, none⟩ = some (.int .i64 0) := box_cell xF rfl
  have f3 : WF.cell? ⟨w.heap.size + 1, 3, none⟩ = some (.slice none 0 0) := box_cell xF rfl
  have f4 : WF.cell? ⟨w.heap.size + 1, 4, none⟩ = some (.slice none 0 0) := box_cell xF rfl
  have f5 : WF.cell? ⟨w.heap.size + 1, 5, none⟩ = some (.slice none 0 0) := box_cell xF rfl
  have HF : Hid (WF = ((((((w1.setCell ⟨w.heap.size + 1, 0, none⟩ (.int .i64 0)).setCell ⟨w.heap.size + 1, 1, none⟩ (.int .i64 0)).setCell ⟨w.heap.size + 1, 2, none⟩ (.int .i64 0)).setCell ⟨w.heap.size + 1, 3, none⟩ (.slice none 0 0)).setCell ⟨w.heap.size + 1, 4, none⟩ (.slice none 0 0)).setCell ⟨w.heap.size + 1, 5, none⟩ (.slice none 0 0))) := hWF
  clear hb1 hd hz hWF xF
  go_wp2
  rw [← HF.out]
  exact bodyPost_ret (v := .tuple #[.agg #[.int .i64 0, .int .i64 0, .int .i64 0, .slice none 0 0, .slice none 0 0, .slice none 0 0], .bool false]) (by simp [results, Try.results13, go_sem, f0, f1, f2, f3, f4, f5]) rfl ⟨rfl, bF⟩

set_option maxRecDepth 100000 in
set_option maxHeartbeats 4000000 in
theorem implDiskFuse_no (cs : List Value) (d : shDisk.D) (r : Int) (B0 : Nat) (G : List Nat) (w : World) (ho : Own shDisk w B0 cs d G) (hs : shDisk.sz d ≤ 1048576) (hok : implOkB d = true) (hok2 : implOkB (fuseD d r) = false) :
    Calls Try.prog 13 #[.agg cs.toArray, .int .i64 r] w fun e w' => e = .returned (.tuple #[.agg #[.int .i64 0, .int .i64 0, .int .i64 0, .slice none 0 0, .slice none 0 0, .slice none 0 0], .bool false]) ∧ Below w.heap.size w w' := by
  obtain ⟨a3, n3, c3, F3, a4, n4, c4, F4, a5, n5, c5, F5, rfl, _, o3, o4, o5⟩ := openO_Disk ho
  obtain ⟨x0, e0⟩ : ∃ x : Int, x = d.1 := ⟨_, rfl⟩
  obtain ⟨x1, e1⟩ : ∃ x : Int, x = d.2.1 := ⟨_, rfl⟩
  obtain ⟨x2, e2⟩ : ∃ x : Int, x = d.2.2.1 := ⟨_, rfl⟩
  have qok : Hid (∀ w', Below w.heap.size w w' → Calls Try.prog 22 #[.agg #[.int .i64 x0, .int .i64 x1, .int .i64 x2, .slice a3 n3 c3, .slice a4 n4 c4, .slice a5 n5 c5]] w' fun e w'' => e = .returned (.bool true) ∧ Below w'.heap.size w' w'') := fun w' h' => by
    rw [e0, e1, e2, ← hok]; exact implOk_ok _ d w' (ho.reads.later h') hs
  have qrt : Hid (∀ w', Below w.heap.size w w' → Calls Try.prog 23 #[.agg #[.int .i64 x0, .int .i64 r, .int .i64 x2, .slice a3 n3 c3, .slice a4 n4 c4, .slice a5 n5 c5]] w' fun e w'' => e = .returned (.tuple #[.agg #[.int .i64 0, .int .i64 0, .int .i64 0, .slice none 0 0, .slice none 0 0, .slice none 0 0], .bool false]) ∧ Below w'.heap.size w' w'') := fun w' h' => by
    have hk : Own shDisk w' B0 [.int .i64 x0, .int .i64 r, .int .i64 x2, .slice a3 n3 c3, .slice a4 n4 c4, .slice a5 n5 c5] (fuseD d r) (F3 ++ (F4 ++ (F5 ++ []))) := by
      have := own_Disk (d := (fuseD d r)) (o3.later h') (o4.later h') (o5.later h')
      rw [e0, e2]; exact this
    exact copyRight_false _ _ B0 _ w' hk (by rw [sz_Disk] at hs ⊢; exact hs) hok2
  rw [← e0, ← e1, ← e2]
  obtain ⟨W1, hW1⟩ : ∃ W, W = (w.alloc (.cells #[.int .i64 x0, .int .i64 x1, .int .i64 x2, .slice a3 n3 c3, .slice a4 n4 c4, .slice a5 n5 c5] 32)).alloc (.cells #[.int .i64 0, .int .i64 0, .int .i64 0, .slice none 0 0, .slice none 0 0, .slice none 0 0] 32) := ⟨_, rfl⟩
  have bW1 : Below w.heap.size w W1 := by rw [hW1]; exact ((Below.refl _ _).alloc (Nat.le_refl _) _).alloc (by simp) _
  have zW1 : w.heap.size + 1 < W1.heap.size := by rw [hW1]; simp
  have hbd : W1.heap[w.heap.size]? = some (.cells #[.int .i64 x0, .int .i64 x1, .int .i64 x2, .slice a3 n3 c3, .slice a4 n4 c4, .slice a5 n5 c5] 32 (0, 0)) := by rw [hW1]; exact (heap_alloc_old _ _ (by simp)).trans (heap_alloc_new w _)
  have hbr : W1.heap[w.heap.size + 1]? = some (.cells #[.int .i64 0, .int .i64 0, .int .i64 0, .slice none 0 0, .slice none 0 0, .slice none 0 0] 32 (0, 0)) := by
    rw [hW1]
    have := heap_alloc_new (w.alloc (.cells #[.int .i64 x0, .int .i64 x1, .int .i64 x2, .slice a3 n3 c3, .slice a4 n4 c4, .slice a5 n5 c5] 32)) (.cells #[.int .i64 0, .int .i64 0, .int .i64 0, .slice none 0 0, .slice none 0 0, .slice none 0 0] 32)
    simpa using this
  have HW1 : Hid (W1 = (w.alloc (.cells #[.int .i64 x0, .int .i64 x1, .int .i64 x2, .slice a3 n3 c3, .slice a4 n4 c4, .slice a5 n5 c5] 32)).alloc (.cells #[.int .i64 0, .int .i64 0, .int .i64 0, .slice none 0 0, .slice none 0 0, .slice none 0 0] 32)) := hW1
  have BX : Hid (∀ w', Below W1.heap.size W1 w' → w'.heap[w.heap.size]? = some (.cells #[.int .i64 x0, .int .i64 x1, .int .i64 x2, .slice a3 n3 c3, .slice a4 n4 c4, .slice a5 n5 c5] 32 (0, 0)) ∧ w'.heap[w.heap.size + 1]? = some (.cells #[.int .i64 0, .int .i64 0, .int .i64 0, .slice none 0 0, .slice none 0 0, .slice none 0 0] 32 (0, 0))) := fun w' h' => ⟨(h'.block _ (by omega)).trans hbd, (h'.block _ zW1).trans hbr⟩
  have HE : Hid (x0 = d.1 ∧ x1 = d.2.1 ∧ x2 = d.2.2.1) := ⟨e0, e1, e2⟩
  clear ho hs o3 o4 o5 e0 e1 e2 hok hW1 hbd hbr hok2
  go_enter Try.func13, Try.ntmps13
  go_wp2_with fail
  rw [← HW1.out]
  refine (qok.out _ bW1).mono ?_
  rintro e w1 ⟨rfl, hb1⟩
  have b1 := bW1.trans (hb1.mono bW1.size)
  obtain ⟨hd, hz⟩ := BX.out w1 hb1
  have z1 := hb1.size
  have y0 : w1.cell? ⟨w.heap.size, 0, none⟩ = some (.int .i64 x0) := box_cell hd rfl
  have y1 : w1.cell? ⟨w.heap.size, 1, none⟩ = some (.int .i64 x1) := box_cell hd rfl
  have y2 : w1.cell? ⟨w.heap.size, 2, none⟩ = some (.int .i64 x2) := box_cell hd rfl
  have y3 : w1.cell? ⟨w.heap.size, 3, none⟩ = some (.slice a3 n3 c3) := box_cell hd rfl
  have y4 : w1.cell? ⟨w.heap.size, 4, none⟩ = some (.slice a4 n4 c4) := box_cell hd rfl
  have y5 : w1.cell? ⟨w.heap.size, 5, none⟩ = some (.slice a5 n5 c5) := box_cell hd rfl
  have g1 : w1.frozen? ⟨w.heap.size, 1, none⟩ = false := box_frozen hd
  obtain ⟨U, hU⟩ : ∃ U, U = w1.setCell ⟨w.heap.size, 1, none⟩ (.int .i64 r) := ⟨_, rfl⟩
  have bU : Below w.heap.size w U := by rw [hU]; exact b1.setCell (Nat.le_refl _) _
  have zU : U.heap.size = w1.heap.size := by rw [hU]; simp
  have hzU : U.heap[w.heap.size + 1]? = some (.cells #[.int .i64 0, .int .i64 0, .int .i64 0, .slice none 0 0, .slice none 0 0, .slice none 0 0] 32 (0, 0)) := by rw [hU]; exact (box_other _ (by omega)).trans hz
  have HU : Hid (U = w1.setCell ⟨w.heap.size, 1, none⟩ (.int .i64 r) ∧ w.heap.size + 1 < U.heap.size) := ⟨hU, by omega⟩
  have zlt : w.heap.size < w1.heap.size := by omega
  clear hb1 hd hz hU
  go_wp2_with fail
  rw [← HU.out.1]
  refine (qrt.out _ bU).mono ?_
  rintro e w2 ⟨rfl, hb2⟩
  have b2 := bU.trans (hb2.mono bU.size)
  have hz := (hb2.block _ HU.out.2).trans hzU
  have z2 := hb2.size
  have m0 : w2.cell? ⟨w.heap.size + 1, 0, none⟩ = some (.int .i64 0) := box_cell hz rfl
  have m1 : w2.cell? ⟨w.heap.size + 1, 1, none⟩ = some (.int .i64 0) := box_cell hz rfl
  have m2 : w2.cell? ⟨w.heap.size + 1, 2, none⟩ = some (.int .i64 0) := box_cell hz rfl
  have m3 : w2.cell? ⟨w.heap.size + 1, 3, none⟩ = some (.slice none 0 0) := box_cell hz rfl
  have m4 : w2.cell? ⟨w.heap.size + 1, 4, none⟩ = some (.slice none 0 0) := box_cell hz rfl
  have m5 : w2.cell? ⟨w.heap.size + 1, 5, none⟩ = some (.slice none 0 0) := box_cell hz rfl
  have u0 : w2.frozen? ⟨w.heap.size + 1, 0, none⟩ = false := box_frozen hz
  have u1 : w2.frozen? ⟨w.heap.size + 1, 1, none⟩ = false := box_frozen hz
  have u2 : w2.frozen? ⟨w.heap.size + 1, 2, none⟩ = false := box_frozen hz
  have u3 : w2.frozen? ⟨w.heap.size + 1, 3, none⟩ = false := box_frozen hz
  have u4 : w2.frozen? ⟨w.heap.size + 1, 4, none⟩ = false := box_frozen hz
  have u5 : w2.frozen? ⟨w.heap.size + 1, 5, none⟩ = false := box_frozen hz
  have hfin : ∃ X, X = ((((((w2.setCell ⟨w.heap.size + 1, 0, none⟩ (.int .i64 0)).setCell ⟨w.heap.size + 1, 1, none⟩ (.int .i64 0)).setCell ⟨w.heap.size + 1, 2, none⟩ (.int .i64 0)).setCell ⟨w.heap.size + 1, 3, none⟩ (.slice none 0 0)).setCell ⟨w.heap.size + 1, 4, none⟩ (.slice none 0 0)).setCell ⟨w.heap.size + 1, 5, none⟩ (.slice none 0 0)) ∧ Below w.heap.size w X ∧ X.heap[w.heap.size + 1]? = some (.cells #[.int .i64 0, .int .i64 0, .int .i64 0, .slice none 0 0, .slice none 0 0, .slice none 0 0] 32 (0, 0)) := ⟨_, rfl, ((((((b2).setCell (by show w.heap.size ≤ w.heap.size + 1; omega) _).setCell (by show w.heap.size ≤ w.heap.size + 1; omega) _).setCell (by show w.heap.size ≤ w.heap.size + 1; omega) _).setCell (by show w.heap.size ≤ w.heap.size + 1; omega) _).setCell (by show w.heap.size ≤ w.heap.size + 1; omega) _).setCell (by show w.heap.size ≤ w.heap.size + 1; omega) _, by rw [(box_set (j := 5) (.slice none 0 0) (box_set (j := 4) (.slice none 0 0) (box_set (j := 3) (.slice none 0 0) (box_set (j := 2) (.int .i64 0) (box_set (j := 1) (.int .i64 0) (box_set (j := 0) (.int .i64 0) hz))))))]; rfl⟩
  obtain ⟨WF, hWF, bF, xF⟩ := hfin
  have f0 : WF.cell? ⟨w.heap.size + 1, 0, none⟩ = some (.int .i64 0) := box_cell xF rfl
  have f1 : WF.cell? ⟨w.heap.size + 1, 1, none⟩ = some (.int .i64 0) := box_cell xF rfl
  have f2 : WF.cell? ⟨w.heap.size + 1, 2, none⟩ = some (.int .i64 0) := box_cell xF rfl
  have f3 : WF.cell? ⟨w.heap.size + 1, 3, none⟩ = some (.slice none 0 0) := box_cell xF rfl
  have f4 : WF.cell? ⟨w.heap.size + 1, 4, none⟩ = some (.slice none 0 0) := box_cell xF rfl
  have f5 : WF.cell? ⟨w.heap.size + 1, 5, none⟩ = some (.slice none 0 0) := box_cell xF rfl
  have HF : Hid (WF = ((((((w2.setCell ⟨w.heap.size + 1, 0, none⟩ (.int .i64 0)).setCell ⟨w.heap.size + 1, 1, none⟩ (.int .i64 0)).setCell ⟨w.heap.size + 1, 2, none⟩ (.int .i64 0)).setCell ⟨w.heap.size + 1, 3, none⟩ (.slice none 0 0)).setCell ⟨w.heap.size + 1, 4, none⟩ (.slice none 0 0)).setCell ⟨w.heap.size + 1, 5, none⟩ (.slice none 0 0))) := hWF
  clear hb2 hz hzU hWF xF y0 y1 y2 y3 y4 y5 zU
  go_wp2
  rw [← HF.out]
  exact bodyPost_ret (v := .tuple #[.agg #[.int .i64 0, .int .i64 0, .int .i64 0, .slice none 0 0, .slice none 0 0, .slice none 0 0], .bool false]) (by simp [results, Try.results13, go_sem, f0, f1, f2, f3, f4, f5]) rfl ⟨rfl, bF⟩

set_option maxRecDepth 100000 in
set_option maxHeartbeats 4000000 in
theorem implDiskFuse_yes (cs : List Value) (d : shDisk.D) (r : Int) (B0 : Nat) (G : List Nat) (w : World) (ho : Own shDisk w B0 cs d G) (hs : shDisk.sz d ≤ 1048576) (hok : implOkB d = true) (hok2 : implOkB (fuseD d r) = true) :
    Calls Try.prog 13 #[.agg cs.toArray, .int .i64 r] w fun e w' => ∃ cs' F, e = .returned (.tuple #[.agg cs'.toArray, .bool true]) ∧ Own shDisk w' w.heap.size cs' (fuseD d r) F ∧ F.Nodup ∧ Below w.heap.size w w' := by
  obtain ⟨a3, n3, c3, F3, a4, n4, c4, F4, a5, n5, c5, F5, rfl, _, o3, o4, o5⟩ := openO_Disk ho
  obtain ⟨x0, e0⟩ : ∃ x : Int, x = d.1 := ⟨_, rfl⟩
  obtain ⟨x1, e1⟩ : ∃ x : Int, x = d.2.1 := ⟨_, rfl⟩
  obtain ⟨x2, e2⟩ : ∃ x : Int, x = d.2.2.1 := ⟨_, rfl⟩
  have qok : Hid (∀ w', Below w.heap.size w w' → Calls Try.prog 22 #[.agg #[.int .i64 x0, .int .i64 x1, .int .i64 x2, .slice a3 n3 c3, .slice a4 n4 c4, .slice a5 n5 c5]] w' fun e w'' => e = .returned (.bool true) ∧ Below w'.heap.size w' w'') := fun w' h' => by
    rw [e0, e1, e2, ← hok]; exact implOk_ok _ d w' (ho.reads.later h') hs
  have qrt : Hid (∀ w', Below w.heap.size w w' → Calls Try.prog 23 #[.agg #[.int .i64 x0, .int .i64 r, .int .i64 x2, .slice a3 n3 c3, .slice a4 n4 c4, .slice a5 n5 c5]] w' fun e w'' => ∃ cs' F, e = .returned (.tuple #[.agg cs'.toArray, .bool true]) ∧ Own shDisk w'' w'.heap.size cs' (fuseD d r) F ∧ F.Nodup ∧ Below w'.heap.size w' w'') := fun w' h' => by
    have hk : Own shDisk w' B0 [.int .i64 x0, .int .i64 r, .int .i64 x2, .slice a3 n3 c3, .slice a4 n4 c4, .slice a5 n5 c5] (fuseD d r) (F3 ++ (F4 ++ (F5 ++ []))) := by
      have := own_Disk (d := (fuseD d r)) (o3.later h') (o4.later h') (o5.later h')
      rw [e0, e2]; exact this
    exact copyRight_true _ _ B0 _ w' hk (by rw [sz_Disk] at hs ⊢; exact hs) hok2
  rw [← e0, ← e1, ← e2]
  obtain ⟨W1, hW1⟩ : ∃ W, W = (w.alloc (.cells #[.int .i64 x0, .int .i64 x1, .int .i64 x2, .slice a3 n3 c3, .slice a4 n4 c4, .slice a5 n5 c5] 32)).alloc (.cells #[.int .i64 0, .int .i64 0, .int .i64 0, .slice none 0 0, .slice none 0 0, .slice none 0 0] 32) := ⟨_, rfl⟩
  have bW1 : Below w.heap.size w W1 := by rw [hW1]; exact ((Below.refl _ _).alloc (Nat.le_refl _) _).alloc (by simp) _
  have zW1 : w.heap.size + 1 < W1.heap.size := by rw [hW1]; simp
  have hbd : W1.heap[w.heap.size]? = some (.cells #[.int .i64 x0, .int .i64 x1, .int .i64 x2, .slice a3 n3 c3, .slice a4 n4 c4, .slice a5 n5 c5] 32 (0, 0)) := by rw [hW1]; exact (heap_alloc_old _ _ (by simp)).trans (heap_alloc_new w _)
  have hbr : W1.heap[w.heap.size + 1]? = some (.cells #[.int .i64 0, .int .i64 0, .int .i64 0, .slice none 0 0, .slice none 0 0, .slice none 0 0] 32 (0, 0)) := by
    rw [hW1]
    have := heap_alloc_new (w.alloc (.cells #[.int .i64 x0, .int .i64 x1, .int .i64 x2, .slice a3 n3 c3, .slice a4 n4 c4, .slice a5 n5 c5] 32)) (.cells #[.int .i64 0, .int .i64 0, .int .i64 0, .slice none 0 0, .slice none 0 0, .slice none 0 0] 32)
    simpa using this
  have HW1 : Hid (W1 = (w.alloc (.cells #[.int .i64 x0, .int .i64 x1, .int .i64 x2, .slice a3 n3 c3, .slice a4 n4 c4, .slice a5 n5 c5] 32)).alloc (.cells #[.int .i64 0, .int .i64 0, .int .i64 0, .slice none 0 0, .slice none 0 0, .slice none 0 0] 32)) := hW1
  have BX : Hid (∀ w', Below W1.heap.size W1 w' → w'.heap[w.heap.size]? = some (.cells #[.int .i64 x0, .int .i64 x1, .int .i64 x2, .slice a3 n3 c3, .slice a4 n4 c4, .slice a5 n5 c5] 32 (0, 0)) ∧ w'.heap[w.heap.size + 1]? = some (.cells #[.int .i64 0, .int .i64 0, .int .i64 0, .slice none 0 0, .slice none 0 0, .slice none 0 0] 32 (0, 0))) := fun w' h' => ⟨(h'.block _ (by omega)).trans hbd, (h'.block _ zW1).trans hbr⟩
  have HE : Hid (x0 = d.1 ∧ x1 = d.2.1 ∧ x2 = d.2.2.1) := ⟨e0, e1, e2⟩
  clear ho hs o3 o4 o5 e0 e1 e2 hok hW1 hbd hbr hok2
  go_enter Try.func13, Try.ntmps13
  go_wp2_with fail
  rw [← HW1.out]
  refine (qok.out _ bW1).mono ?_
  rintro e w1 ⟨rfl, hb1⟩
  have b1 := bW1.trans (hb1.mono bW1.size)
  obtain ⟨hd, hz⟩ := BX.out w1 hb1
  have z1 := hb1.size
  have y0 : w1.cell? ⟨w.heap.size, 0, none⟩ = some (.int .i64 x0) := box_cell hd rfl
  have y1 : w1.cell? ⟨w.heap.size, 1, none⟩ = some (.int .i64 x1) := box_cell hd rfl
  have y2 : w1.cell? ⟨w.heap.size, 2, none⟩ = some (.int .i64 x2) := box_cell hd rfl
  have y3 : w1.cell? ⟨w.heap.size, 3, none⟩ = some (.slice a3 n3 c3) := box_cell hd rfl
  have y4 : w1.cell? ⟨w.heap.size, 4, none⟩ = some (.slice a4 n4 c4) := box_cell hd rfl
  have y5 : w1.cell? ⟨w.heap.size, 5, none⟩ = some (.slice a5 n5 c5) := box_cell hd rfl
  have g1 : w1.frozen? ⟨w.heap.size, 1, none⟩ = false := box_frozen hd
  obtain ⟨U, hU⟩ : ∃ U, U = w1.setCell ⟨w.heap.size, 1, none⟩ (.int .i64 r) := ⟨_, rfl⟩
  have bU : Below w.heap.size w U := by rw [hU]; exact b1.setCell (Nat.le_refl _) _
  have zU : U.heap.size = w1.heap.size := by rw [hU]; simp
  have hzU : U.heap[w.heap.size + 1]? = some (.cells #[.int .i64 0, .int .i64 0, .int .i64 0, .slice none 0 0, .slice none 0 0, .slice none 0 0] 32 (0, 0)) := by rw [hU]; exact (box_other _ (by omega)).trans hz
  have HU : Hid (U = w1.setCell ⟨w.heap.size, 1, none⟩ (.int .i64 r) ∧ w.heap.size + 1 < U.heap.size) := ⟨hU, by omega⟩
  have zlt : w.heap.size < w1.heap.size := by omega
  clear hb1 hd hz hU
  go_wp2_with fail
  rw [← HU.out.1]
  refine (qrt.out _ bU).mono ?_
  rintro e w2 ⟨cs', F, he, p, nd, hb2⟩
  have b2 := bU.trans (hb2.mono bU.size)
  have hz2 := (hb2.block _ HU.out.2).trans hzU
  have z2 := hb2.size
  obtain ⟨p3, r3, s3, p4, r4, s4, p5, r5, s5, hcs, _⟩ := open_Disk p.reads
  have hcs' : cs' = [.int .i64 x0, .int .i64 r, .int .i64 x2, .slice p3 r3 s3, .slice p4 r4 s4, .slice p5 r5 s5] := hcs.trans (by rw [HE.out.1, HE.out.2.2]; rfl)
  clear hcs
  subst hcs'
  subst he
  have m0 : w2.cell? ⟨w.heap.size + 1, 0, none⟩ = some (.int .i64 0) := box_cell hz2 rfl
  have m1 : w2.cell? ⟨w.heap.size + 1, 1, none⟩ = some (.int .i64 0) := box_cell hz2 rfl
  have m2 : w2.cell? ⟨w.heap.size + 1, 2, none⟩ = some (.int .i64 0) := box_cell hz2 rfl
  have m3 : w2.cell? ⟨w.heap.size + 1, 3, none⟩ = some (.slice none 0 0) := box_cell hz2 rfl
  have m4 : w2.cell? ⟨w.heap.size + 1, 4, none⟩ = some (.slice none 0 0) := box_cell hz2 rfl
  have m5 : w2.cell? ⟨w.heap.size + 1, 5, none⟩ = some (.slice none 0 0) := box_cell hz2 rfl
  have u0 : w2.frozen? ⟨w.heap.size + 1, 0, none⟩ = false := box_frozen hz2
  have u1 : w2.frozen? ⟨w.heap.size + 1, 1, none⟩ = false := box_frozen hz2
  have u2 : w2.frozen? ⟨w.heap.size + 1, 2, none⟩ = false := box_frozen hz2
  have u3 : w2.frozen? ⟨w.heap.size + 1, 3, none⟩ = false := box_frozen hz2
  have u4 : w2.frozen? ⟨w.heap.size + 1, 4, none⟩ = false := box_frozen hz2
  have u5 : w2.frozen? ⟨w.heap.size + 1, 5, none⟩ = false := box_frozen hz2
  have hfin : ∃ X, X = ((((((w2.setCell ⟨w.heap.size + 1, 0, none⟩ (.int .i64 x0)).setCell ⟨w.heap.size + 1, 1, none⟩ (.int .i64 r)).setCell ⟨w.heap.size + 1, 2, none⟩ (.int .i64 x2)).setCell ⟨w.heap.size + 1, 3, none⟩ (.slice p3 r3 s3)).setCell ⟨w.heap.size + 1, 4, none⟩ (.slice p4 r4 s4)).setCell ⟨w.heap.size + 1, 5, none⟩ (.slice p5 r5 s5)) ∧ Below w.heap.size w X ∧ X.heap[w.heap.size + 1]? = some (.cells #[.int .i64 x0, .int .i64 r, .int .i64 x2, .slice p3 r3 s3, .slice p4 r4 s4, .slice p5 r5 s5] 32 (0, 0)) ∧ Own shDisk X w.heap.size [.int .i64 x0, .int .i64 r, .int .i64 x2, .slice p3 r3 s3, .slice p4 r4 s4, .slice p5 r5 s5] (fuseD d r) F := ⟨_, rfl, ((((((b2).setCell (by show w.heap.size ≤ w.heap.size + 1; omega) _).setCell (by show w.heap.size ≤ w.heap.size + 1; omega) _).setCell (by show w.heap.size ≤ w.heap.size + 1; omega) _).setCell (by show w.heap.size ≤ w.heap.size + 1; omega) _).setCell (by show w.heap.size ≤ w.heap.size + 1; omega) _).setCell (by show w.heap.size ≤ w.heap.size + 1; omega) _, by rw [(box_set (j := 5) (.slice p5 r5 s5) (box_set (j := 4) (.slice p4 r4 s4) (box_set (j := 3) (.slice p3 r3 s3) (box_set (j := 2) (.int .i64 x2) (box_set (j := 1) (.int .i64 r) (box_set (j := 0) (.int .i64 x0) hz2))))))]; rfl, (p.keep fun y hy => ((box_other (b := w.heap.size + 1) (j := 5) (.slice p5 r5 s5) (by have := (p.lt y hy).1; have := HU.out.2; omega)).trans ((box_other (b := w.heap.size + 1) (j := 4) (.slice p4 r4 s4) (by have := (p.lt y hy).1; have := HU.out.2; omega)).trans ((box_other (b := w.heap.size + 1) (j := 3) (.slice p3 r3 s3) (by have := (p.lt y hy).1; have := HU.out.2; omega)).trans ((box_other (b := w.heap.size + 1) (j := 2) (.int .i64 x2) (by have := (p.lt y hy).1; have := HU.out.2; omega)).trans ((box_other (b := w.heap.size + 1) (j := 1) (.int .i64 r) (by have := (p.lt y hy).1; have := HU.out.2; omega)).trans (box_other (b := w.heap.size + 1) (j := 0) (.int .i64 x0) (by have := (p.lt y hy).1; have := HU.out.2; omega)))))))).base bU.size⟩
  obtain ⟨WF, hWF, bF, xF, oF⟩ := hfin
  have f0 : WF.cell? ⟨w.heap.size + 1, 0, none⟩ = some (.int .i64 x0) := box_cell xF rfl
  have f1 : WF.cell? ⟨w.heap.size + 1, 1, none⟩ = some (.int .i64 r) := box_cell xF rfl
  have f2 : WF.cell? ⟨w.heap.size + 1, 2, none⟩ = some (.int .i64 x2) := box_cell xF rfl
  have f3 : WF.cell? ⟨w.heap.size + 1, 3, none⟩ = some (.slice p3 r3 s3) := box_cell xF rfl
  have f4 : WF.cell? ⟨w.heap.size + 1, 4, none⟩ = some (.slice p4 r4 s4) := box_cell xF rfl
  have f5 : WF.cell? ⟨w.heap.size + 1, 5, none⟩ = some (.slice p5 r5 s5) := box_cell xF rfl
  have HF : Hid (WF = ((((((w2.setCell ⟨w.heap.size + 1, 0, none⟩ (.int .i64 x0)).setCell ⟨w.heap.size + 1, 1, none⟩ (.int .i64 r)).setCell ⟨w.heap.size + 1, 2, none⟩ (.int .i64 x2)).setCell ⟨w.heap.size + 1, 3, none⟩ (.slice p3 r3 s3)).setCell ⟨w.heap.size + 1, 4, none⟩ (.slice p4 r4 s4)).setCell ⟨w.heap.size + 1, 5, none⟩ (.slice p5 r5 s5)) ∧ Own shDisk WF w.heap.size [.int .i64 x0, .int .i64 r, .int .i64 x2, .slice p3 r3 s3, .slice p4 r4 s4, .slice p5 r5 s5] (fuseD d r) F ∧ F.Nodup) := ⟨hWF, oF, nd⟩
  clear hWF xF oF p nd hb2 hz2 hzU zU y0 y1 y2 y3 y4 y5
  go_wp2
  rw [← HF.out.1]
  exact bodyPost_ret (v := .tuple #[.agg #[.int .i64 x0, .int .i64 r, .int .i64 x2, .slice p3 r3 s3, .slice p4 r4 s4, .slice p5 r5 s5], .bool true]) (by simp [results, Try.results13, go_sem, f0, f1, f2, f3, f4, f5]) rfl ⟨_, F, rfl, HF.out.2.1, HF.out.2.2, bF⟩

set_option maxRecDepth 100000 in
set_option maxHeartbeats 4000000 in
theorem specDiskRoom_bad (cs : List Value) (d : shDisk.D) (r : Int) (B0 : Nat) (G : List Nat) (w : World) (ho : Own shDisk w B0 cs d G) (hs : shDisk.sz d ≤ 1048576) (hok : implOkB d = false) :
    Calls Try.prog 6 #[.agg cs.toArray, .int .i64 r] w fun e w' => e = .returned (.tuple #[.agg #[.int .i64 0, .int .i64 0, .int .i64 0, .slice none 0 0, .slice none 0 0, .slice none 0 0], .bool false]) ∧ Below w.heap.size w w' := by
  obtain ⟨a3, n3, c3, F3, a4, n4, c4, F4, a5, n5, c5, F5, rfl, _, o3, o4, o5⟩ := openO_Disk ho
  obtain ⟨x0, e0⟩ : ∃ x : Int, x = d.1 := ⟨_, rfl⟩
  obtain ⟨x1, e1⟩ : ∃ x : Int, x = d.2.1 := ⟨_, rfl⟩
  obtain ⟨x2, e2⟩ : ∃ x : Int, x = d.2.2.1 := ⟨_, rfl⟩
  have qok : Hid (∀ w', Below w.heap.size w w' → Calls Try.prog 17 #[.agg #[.int .i64 x0, .int .i64 x1, .int .i64 x2, .slice a3 n3 c3, .slice a4 n4 c4, .slice a5 n5 c5]] w' fun e w'' => e = .returned (.bool false) ∧ Below w'.heap.size w' w'') := fun w' h' => by
    rw [e0, e1, e2, ← hok]; exact specOkB_ok _ d w' (ho.reads.later h') hs
  have qrt : Hid (∀ w', Below w.heap.size w w' → Calls Try.prog 18 #[.agg #[.int .i64 r, .int .i64 x1, .int .i64 x2, .slice a3 n3 c3, .slice a4 n4 c4, .slice a5 n5 c5], .bool false] w' fun e w'' => e = .returned (.tuple #[.agg #[.int .i64 0, .int .i64 0, .int .i64 0, .slice none 0 0, .slice none 0 0, .slice none 0 0], .bool false]) ∧ Below w'.heap.size w' w'') := fun w' h' => l04If_off _ w' ⟨_, _, _, _, _, _, _, _, _, _, _, _, rfl⟩
  rw [← e0, ← e1, ← e2]
  obtain ⟨W1, hW1⟩ : ∃ W, W = (w.alloc (.cells #[.int .i64 x0, .int .i64 x1, .int .i64 x2, .slice a3 n3 c3, .slice a4 n4 c4, .slice a5 n5 c5] 32)).alloc (.cells #[.int .i64 0, .int .i64 0, .int .i64 0, .slice none 0 0, .slice none 0 0, .slice none 0 0] 32) := ⟨_, rfl⟩
  have bW1 : Below w.heap.size w W1 := by rw [hW1]; exact ((Below.refl _ _).alloc (Nat.le_refl _) _).alloc (by simp) _
  have zW1 : w.heap.size + 1 < W1.heap.size := by rw [hW1]; simp
  have hbd : W1.heap[w.heap.size]? = some (.cells #[.int .i64 x0, .int .i64 x1, .int .i64 x2, .slice a3 n3 c3, .slice a4 n4 c4, .slice a5 n5 c5] 32 (0, 0)) := by rw [hW1]; exact (heap_alloc_old _ _ (by simp)).trans (heap_alloc_new w _)
  have hbr : W1.heap[w.heap.size + 1]? = some (.cells #[.int .i64 0, .int .i64 0, .int .i64 0, .slice none 0 0, .slice none 0 0, .slice none 0 0] 32 (0, 0)) := by
    rw [hW1]
    have := heap_alloc_new (w.alloc (.cells #[.int .i64 x0, .int .i64 x1, .int .i64 x2, .slice a3 n3 c3, .slice a4 n4 c4, .slice a5 n5 c5] 32)) (.cells #[.int .i64 0, .int .i64 0, .int .i64 0, .slice none 0 0, .slice none 0 0, .slice none 0 0] 32)
    simpa using this
  have HW1 : Hid (W1 = (w.alloc (.cells #[.int .i64 x0, .int .i64 x1, .int .i64 x2, .slice a3 n3 c3, .slice a4 n4 c4, .slice a5 n5 c5] 32)).alloc (.cells #[.int .i64 0, .int .i64 0, .int .i64 0, .slice none 0 0, .slice none 0 0, .slice none 0 0] 32)) := hW1
  have BX : Hid (∀ w', Below W1.heap.size W1 w' → w'.heap[w.heap.size]? = some (.cells #[.int .i64 x0, .int .i64 x1, .int .i64 x2, .slice a3 n3 c3, .slice a4 n4 c4, .slice a5 n5 c5] 32 (0, 0)) ∧ w'.heap[w.heap.size + 1]? = some (.cells #[.int .i64 0, .int .i64 0, .int .i64 0, .slice none 0 0, .slice none 0 0, .slice none 0 0] 32 (0, 0))) := fun w' h' => ⟨(h'.block _ (by omega)).trans hbd, (h'.block _ zW1).trans hbr⟩
  have HE : Hid (x0 = d.1 ∧ x1 = d.2.1 ∧ x2 = d.2.2.1) := ⟨e0, e1, e2⟩
  clear ho hs o3 o4 o5 e0 e1 e2 hok hW1 hbd hbr
  go_enter Try.func6, Try.ntmps6
  go_wp2_with fail
  rw [← HW1.out]
  refine (qok.out _ bW1).mono ?_
  rintro e w1 ⟨rfl, hb1⟩
  have b1 := bW1.trans (hb1.mono bW1.size)
  obtain ⟨hd, hz⟩ := BX.out w1 hb1
  have z1 := hb1.size
  have y0 : w1.cell? ⟨w.heap.size, 0, none⟩ = some (.int .i64 x0) := box_cell hd rfl
  have y1 : w1.cell? ⟨w.heap.size, 1, none⟩ = some (.int .i64 x1) := box_cell hd rfl
  have y2 : w1.cell? ⟨w.heap.size, 2, none⟩ = some (.int .i64 x2) := box_cell hd rfl
  have y3 : w1.cell? ⟨w.heap.size, 3, none⟩ = some (.slice a3 n3 c3) := box_cell hd rfl
  have y4 : w1.cell? ⟨w.heap.size, 4, none⟩ = some (.slice a4 n4 c4) := box_cell hd rfl
  have y5 : w1.cell? ⟨w.heap.size, 5, none⟩ = some (.slice a5 n5 c5) := box_cell hd rfl
  have g0 : w1.frozen? ⟨w.heap.size, 0, none⟩ = false := box_frozen hd
  obtain ⟨U, hU⟩ : ∃ U, U = w1.setCell ⟨w.heap.size, 0, none⟩ (.int .i64 r) := ⟨_, rfl⟩
  have bU : Below w.heap.size w U := by rw [hU]; exact b1.setCell (Nat.le_refl _) _
  have zU : U.heap.size = w1.heap.size := by rw [hU]; simp
  have hzU : U.heap[w.heap.size + 1]? = some (.cells #[.int .i64 0, .int .i64 0, .int .i64 0, .slice none 0 0, .slice none 0 0, .slice none 0 0] 32 (0, 0)) := by rw [hU]; exact (box_other _ (by omega)).trans hz
  have HU : Hid (U = w1.setCell ⟨w.heap.size, 0, none⟩ (.int .i64 r) ∧ w.heap.size + 1 < U.heap.size) := ⟨hU, by omega⟩
  have zlt : w.heap.size < w1.heap.size := by omega
  clear hb1 hd hz hU
  go_wp2_with fail
  rw [← HU.out.1]
  refine (qrt.out _ bU).mono ?_
  rintro e w2 ⟨rfl, hb2⟩
  have b2 := bU.trans (hb2.mono bU.size)
  have hz := (hb2.block _ HU.out.2).trans hzU
  have z2 := hb2.size
  have m0 : w2.cell? ⟨w.heap.size + 1, 0, none⟩ = some (.int .i64 0) := box_cell hz rfl
  have m1 : w2.cell? ⟨w.heap.size + 1, 1, none⟩ = some (.int .i64 0) := box_cell hz rfl
  have m2 : w2.cell? ⟨w.heap.size + 1, 2, none⟩ = some (.int .i64 0) := box_cell hz rfl
  have m3 : w2.cell? ⟨w.heap.size + 1, 3, none⟩ = some (.slice none 0 0) := box_cell hz rfl
  have m4 : w2.cell? ⟨w.heap.size + 1, 4, none⟩ = some (.slice none 0 0) := box_cell hz rfl
  have m5 : w2.cell? ⟨w.heap.size + 1, 5, none⟩ = some (.slice none 0 0) := box_cell hz rfl
  have u0 : w2.frozen? ⟨w.heap.size + 1, 0, none⟩ = false := box_frozen hz
  have u1 : w2.frozen? ⟨w.heap.size + 1, 1, none⟩ = false := box_frozen hz
  have u2 : w2.frozen? ⟨w.heap.size + 1, 2, none⟩ = false := box_frozen hz
  have u3 : w2.frozen? ⟨w.heap.size + 1, 3, none⟩ = false := box_frozen hz
  have u4 : w2.frozen? ⟨w.heap.size + 1, 4, none⟩ = false := box_frozen hz
  have u5 : w2.frozen? ⟨w.heap.size + 1, 5, none⟩ = false := box_frozen hz
  have hfin : ∃ X, X = ((((((w2.setCell ⟨w.heap.size + 1, 0, none⟩ (.int .i64 0)).setCell ⟨w.heap.size + 1, 1, none⟩ (.int .i64 0)).setCell ⟨w.heap.size + 1, 2, none⟩ (.int .i64 0)).setCell ⟨w.heap.size + 1, 3, none⟩ (.slice none 0 0)).setCell ⟨w.heap.size + 1, 4, none⟩ (.slice none 0 0)).setCell ⟨w.heap.size + 1, 5, none⟩ (.slice none 0 0)) ∧ Below w.heap.size w X ∧ X.heap[w.heap.size + 1]? = some (.cells #[.int .i64 0, .int .i64 0, .int .i64 0, .slice none 0 0, .slice none 0 0, .slice none 0 0] 32 (0, 0)) := ⟨_, rfl, ((((((b2).setCell (by show w.heap.size ≤ w.heap.size + 1; omega) _).setCell (by show w.heap.size ≤ w.heap.size + 1; omega) _).setCell (by show w.heap.size ≤ w.heap.size + 1; omega) _).setCell (by show w.heap.size ≤ w.heap.size + 1; omega) _).setCell (by show w.heap.size ≤ w.heap.size + 1; omega) _).setCell (by show w.heap.size ≤ w.heap.size + 1; omega) _, by rw [(box_set (j := 5) (.slice none 0 0) (box_set (j := 4) (.slice none 0 0) (box_set (j := 3) (.slice none 0 0) (box_set (j := 2) (.int .i64 0) (box_set (j := 1) (.int .i64 0) (box_set (j := 0) (.int .i64 0) hz))))))]; rfl⟩
  obtain ⟨WF, hWF, bF, xF⟩ := hfin
  have f0 : WF.cell? ⟨w.heap.size + 1, 0, none⟩ = some (.int .i64 0) := box_cell xF rfl
  have f1 : WF.cell? ⟨w.heap.size + 1, 1, none⟩ = some (.int .i64 0) := box_cell xF rfl
  have f2 : WF.cell? ⟨w.heap.size + 1, 2, none⟩ = some (.int .i64 0) := box_cell xF rfl
  have f3 : WF.cell? ⟨w.heap.size + 1, 3, none⟩ = some (.slice none 0 0) := box_cell xF rfl
  have f4 : WF.cell? ⟨w.heap.size + 1, 4, none⟩ = some (.slice none 0 0) := box_cell xF rfl
  have f5 : WF.cell? ⟨w.heap.size + 1, 5, none⟩ = some (.slice none 0 0) := box_cell xF rfl
  have HF : Hid (WF = ((((((w2.setCell ⟨w.heap.size + 1, 0, none⟩ (.int .i64 0)).setCell ⟨w.heap.size + 1, 1, none⟩ (.int .i64 0)).setCell ⟨w.heap.size + 1, 2, none⟩ (.int .i64 0)).setCell ⟨w.heap.size + 1, 3, none⟩ (.slice none 0 0)).setCell ⟨w.heap.size + 1, 4, none⟩ (.slice none 0 0)).setCell ⟨w.heap.size + 1, 5, none⟩ (.slice none 0 0))) := hWF
  clear hb2 hz hzU hWF xF y0 y1 y2 y3 y4 y5 zU
  go_wp2
  rw [← HF.out]
  exact bodyPost_ret (v := .tuple #[.agg #[.int .i64 0, .int .i64 0, .int .i64 0, .slice none 0 0, .slice none 0 0, .slice none 0 0], .bool false]) (by simp [results, Try.results6, go_sem, f0, f1, f2, f3, f4, f5]) rfl ⟨rfl, bF⟩

set_option maxRecDepth 100000 in
set_option maxHeartbeats 4000000 in
theorem specDiskRoom_no (cs : List Value) (d : shDisk.D) (r : Int) (B0 : Nat) (G : List Nat) (w : World) (ho : Own shDisk w B0 cs d G) (hs : shDisk.sz d ≤ 1048576) (hok : implOkB d = true) (hok2 : implOkB (roomD d r) = false) :
    Calls Try.prog 6 #[.agg cs.toArray, .int .i64 r] w fun e w' => e = .returned (.tuple #[.agg #[.int .i64 0, .int .i64 0, .int .i64 0, .slice none 0 0, .slice none 0 0, .slice none 0 0], .bool false]) ∧ Below w.heap.size w w' := by
  obtain ⟨a3, n3, c3, F3, a4, n4, c4, F4, a5, n5, c5, F5, rfl, _, o3, o4, o5⟩ := openO_Disk ho
  obtain ⟨x0, e0⟩ : ∃ x : Int, x = d.1 := ⟨_, rfl⟩
  obtain ⟨x1, e1⟩ : ∃ x : Int, x = d.2.1 := ⟨_, rfl⟩
  obtain ⟨x2, e2⟩ : ∃ x : Int, x = d.2.2.1 := ⟨_, rfl⟩
  have qok : Hid (∀ w', Below w.heap.size w w' → Calls Try.prog 17 #[.agg #[.int .i64 x0, .int .i64 x1, .int .i64 x2, .slice a3 n3 c3, .slice a4 n4 c4, .slice a5 n5 c5]] w' fun e w'' => e = .returned (.bool true) ∧ Below w'.heap.size w' w'') := fun w' h' => by
    rw [e0, e1, e2, ← hok]; exact specOkB_ok _ d w' (ho.reads.later h') hs
  have qrt : Hid (∀ w', Below w.heap.size w w' → Calls Try.prog 18 #[.agg #[.int .i64 r, .int .i64 x1, .int .i64 x2, .slice a3 n3 c3, .slice a4 n4 c4, .slice a5 n5 c5], .bool true] w' fun e w'' => e = .returned (.tuple #[.agg #[.int .i64 0, .int .i64 0, .int .i64 0, .slice none 0 0, .slice none 0 0, .slice none 0 0], .bool false]) ∧ Below w'.heap.size w' w'') := fun w' h' => by
    have hk : Own shDisk w' B0 [.int .i64 r, .int .i64 x1, .int .i64 x2, .slice a3 n3 c3, .slice a4 n4 c4, .slice a5 n5 c5] (roomD d r) (F3 ++ (F4 ++ (F5 ++ []))) := by
      have := own_Disk (d := (roomD d r)) (o3.later h') (o4.later h') (o5.later h')
      rw [e1, e2]; exact this
    exact l04If_false _ _ B0 _ w' hk (by rw [sz_Disk] at hs ⊢; exact hs) hok2
  rw [← e0, ← e1, ← e2]
  obtain ⟨W1, hW1⟩ : ∃ W, W = (w.alloc (.cells #[.int .i64 x0, .int .i64 x1, .int .i64 x2, .slice a3 n3 c3, .slice a4 n4 c4, .slice a5 n5 c5] 32)).alloc (.cells #[.int .i64 0, .int .i64 0, .int .i64 0, .slice none 0 0, .slice none 0 0, .slice none 0 0] 32) := ⟨_, rfl⟩
  have bW1 : Below w.heap.size w W1 := by rw [hW1]; exact ((Below.refl _ _).alloc (Nat.le_refl _) _).alloc (by simp) _
  have zW1 : w.heap.size + 1 < W1.heap.size := by rw [hW1]; simp
  have hbd : W1.heap[w.heap.size]? = some (.cells #[.int .i64 x0, .int .i64 x1, .int .i64 x2, .slice a3 n3 c3, .slice a4 n4 c4, .slice a5 n5 c5] 32 (0, 0)) := by rw [hW1]; exact (heap_alloc_old _ _ (by simp)).trans (heap_alloc_new w _)
  have hbr : W1.heap[w.heap.size + 1]? = some (.cells #[.int .i64 0, .int .i64 0, .int .i64 0, .slice none 0 0, .slice none 0 0, .slice none 0 0] 32 (0, 0)) := by
    rw [hW1]
    have := heap_alloc_new (w.alloc (.cells #[.int .i64 x0, .int .i64 x1, .int .i64 x2, .slice a3 n3 c3, .slice a4 n4 c4, .slice a5 n5 c5] 32)) (.cells #[.int .i64 0, .int .i64 0, .int .i64 0, .slice none 0 0, .slice none 0 0, .slice none 0 0] 32)
    simpa using this
  have HW1 : Hid (W1 = (w.alloc (.cells #[.int .i64 x0, .int .i64 x1, .int .i64 x2, .slice a3 n3 c3, .slice a4 n4 c4, .slice a5 n5 c5] 32)).alloc (.cells #[.int .i64 0, .int .i64 0, .int .i64 0, .slice none 0 0, .slice none 0 0, .slice none 0 0] 32)) := hW1
  have BX : Hid (∀ w', Below W1.heap.size W1 w' → w'.heap[w.heap.size]? = some (.cells #[.int .i64 x0, .int .i64 x1, .int .i64 x2, .slice a3 n3 c3, .slice a4 n4 c4, .slice a5 n5 c5] 32 (0, 0)) ∧ w'.heap[w.heap.size + 1]? = some (.cells #[.int .i64 0, .int .i64 0, .int .i64 0, .slice none 0 0, .slice none 0 0, .slice none 0 0] 32 (0, 0))) := fun w' h' => ⟨(h'.block _ (by omega)).trans hbd, (h'.block _ zW1).trans hbr⟩
  have HE : Hid (x0 = d.1 ∧ x1 = d.2.1 ∧ x2 = d.2.2.1) := ⟨e0, e1, e2⟩
  clear ho hs o3 o4 o5 e0 e1 e2 hok hW1 hbd hbr hok2
  go_enter Try.func6, Try.ntmps6
  go_wp2_with fail
  rw [← HW1.out]
  refine (qok.out _ bW1).mono ?_
  rintro e w1 ⟨rfl, hb1⟩
  have b1 := bW1.trans (hb1.mono bW1.size)
  obtain ⟨hd, hz⟩ := BX.out w1 hb1
  have z1 := hb1.size
  have y0 : w1.cell? ⟨w.heap.size, 0, none⟩ = some (.int .i64 x0) := box_cell hd rfl
  have y1 : w1.cell? ⟨w.heap.size, 1, none⟩ = some (.int .i64 x1) := box_cell hd rfl
  have y2 : w1.cell? ⟨w.heap.size, 2, none⟩ = some (.int .i64 x2) := box_cell hd rfl
  have y3 : w1.cell? ⟨w.heap.size, 3, none⟩ = some (.slice a3 n3 c3) := box_cell hd rfl
  have y4 : w1.cell? ⟨w.heap.size, 4, none⟩ = some (.slice a4 n4 c4) := box_cell hd rfl
  have y5 : w1.cell? ⟨w.heap.size, 5, none⟩ = some (.slice a5 n5 c5) := box_cell hd rfl
  have g0 : w1.frozen? ⟨w.heap.size, 0, none⟩ = false := box_frozen hd
  obtain ⟨U, hU⟩ : ∃ U, U = w1.setCell ⟨w.heap.size, 0, none⟩ (.int .i64 r) := ⟨_, rfl⟩
  have bU : Below w.heap.size w U := by rw [hU]; exact b1.setCell (Nat.le_refl _) _
  have zU : U.heap.size = w1.heap.size := by rw [hU]; simp
  have hzU : U.heap[w.heap.size + 1]? = some (.cells #[.int .i64 0, .int .i64 0, .int .i64 0, .slice none 0 0, .slice none 0 0, .slice none 0 0] 32 (0, 0)) := by rw [hU]; exact (box_other _ (by omega)).trans hz
  have HU : Hid (U = w1.setCell ⟨w.heap.size, 0, none⟩ (.int .i64 r) ∧ w.heap.size + 1 < U.heap.size) := ⟨hU, by omega⟩
  have zlt : w.heap.size < w1.heap.size := by omega
  clear hb1 hd hz hU
  go_wp2_with fail
  rw [← HU.out.1]
  refine (qrt.out _ bU).mono ?_
  rintro e w2 ⟨rfl, hb2⟩
  have b2 := bU.trans (hb2.mono bU.size)
  have hz := (hb2.block _ HU.out.2).trans hzU
  have z2 := hb2.size
  have m0 : w2.cell? ⟨w.heap.size + 1, 0, none⟩ = some (.int .i64 0) := box_cell hz rfl
  have m1 : w2.cell? ⟨w.heap.size + 1, 1, none⟩ = some (.int .i64 0) := box_cell hz rfl
  have m2 : w2.cell? ⟨w.heap.size + 1, 2, none⟩ = some (.int .i64 0) := box_cell hz rfl
  have m3 : w2.cell? ⟨w.heap.size + 1, 3, none⟩ = some (.slice none 0 0) := box_cell hz rfl
  have m4 : w2.cell? ⟨w.heap.size + 1, 4, none⟩ = some (.slice none 0 0) := box_cell hz rfl
  have m5 : w2.cell? ⟨w.heap.size + 1, 5, none⟩ = some (.slice none 0 0) := box_cell hz rfl
  have u0 : w2.frozen? ⟨w.heap.size + 1, 0, none⟩ = false := box_frozen hz
  have u1 : w2.frozen? ⟨w.heap.size + 1, 1, none⟩ = false := box_frozen hz
  have u2 : w2.frozen? ⟨w.heap.size + 1, 2, none⟩ = false := box_frozen hz
  have u3 : w2.frozen? ⟨w.heap.size + 1, 3, none⟩ = false := box_frozen hz
  have u4 : w2.frozen? ⟨w.heap.size + 1, 4, none⟩ = false := box_frozen hz
  have u5 : w2.frozen? ⟨w.heap.size + 1, 5, none⟩ = false := box_frozen hz
  have hfin : ∃ X, X = ((((((w2.setCell ⟨w.heap.size + 1, 0, none⟩ (.int .i64 0)).setCell ⟨w.heap.size + 1, 1, none⟩ (.int .i64 0)).setCell ⟨w.heap.size + 1, 2, none⟩ (.int .i64 0)).setCell ⟨w.heap.size + 1, 3, none⟩ (.slice none 0 0)).setCell ⟨w.heap.size + 1, 4, none⟩ (.slice none 0 0)).setCell ⟨w.heap.size + 1, 5, none⟩ (.slice none 0 0)) ∧ Below w.heap.size w X ∧ X.heap[w.heap.size + 1]? = some (.cells #[.int .i64 0, .int .i64 0, .int .i64 0, .slice none 0 0, .slice none 0 0, .slice none 0 0] 32 (0, 0)) := ⟨_, rfl, ((((((b2).setCell (by show w.heap.size ≤ w.heap.size + 1; omega) _).setCell (by show w.heap.size ≤ w.heap.size + 1; omega) _).setCell (by show w.heap.size ≤ w.heap.size + 1; omega) _).setCell (by show w.heap.size ≤ w.heap.size + 1; omega) _).setCell (by show w.heap.size ≤ w.heap.size + 1; omega) _).setCell (by show w.heap.size ≤ w.heap.size + 1; omega) _, by rw [(box_set (j := 5) (.slice none 0 0) (box_set (j := 4) (.slice none 0 0) (box_set (j := 3) (.slice none 0 0) (box_set (j := 2) (.int .i64 0) (box_set (j := 1) (.int .i64 0) (box_set (j := 0) (.int .i64 0) hz))))))]; rfl⟩
  obtain ⟨WF, hWF, bF, xF⟩ := hfin
  have f0 : WF.cell? ⟨w.heap.size + 1, 0, none⟩ = some (.int .i64 0) := box_cell xF rfl
  have f1 : WF.cell? ⟨w.heap.size + 1, 1, none⟩ = some (.int .i64 0) := box_cell xF rfl
  have f2 : WF.cell? ⟨w.heap.size + 1, 2, none⟩ = some (.int .i64 0) := box_cell xF rfl
  have f3 : WF.cell? ⟨w.heap.size + 1, 3, none⟩ = some (.slice none 0 0) := box_cell xF rfl
  have f4 : WF.cell? ⟨w.heap.size + 1, 4, none⟩ = some (.slice none 0 0) := box_cell xF rfl
  have f5 : WF.cell? ⟨w.heap.size + 1, 5, none⟩ = some (.slice none 0 0) := box_cell xF rfl
  have HF : Hid (WF = ((((((w2.setCell ⟨w.heap.size + 1, 0, none⟩ (.int .i64 0)).setCell ⟨w.heap.size + 1, 1, none⟩ (.int .i64 0)).setCell ⟨w.heap.size + 1, 2, none⟩ (.int .i64 0)).setCell ⟨w.heap.size + 1, 3, none⟩ (.slice none 0 0)).setCell ⟨w.heap.size + 1, 4, none⟩ (.slice none 0 0)).setCell ⟨w.heap.size + 1, 5, none⟩ (.slice none 0 0))) := hWF
  clear hb2 hz hzU hWF xF y0 y1 y2 y3 y4 y5 zU
  go_wp2
  rw [← HF.out]
  exact bodyPost_ret (v := .tuple #[.agg #[.int .i64 0, .int .i64 0, .int .i64 0, .slice none 0 0, .slice none 0 0, .slice none 0 0], .bool false]) (by simp [results, Try.results6, go_sem, f0, f1, f2, f3, f4, f5]) rfl ⟨rfl, bF⟩

set_option maxRecDepth 100000 in
set_option maxHeartbeats 4000000 in
theorem specDiskRoom_yes (cs : List Value) (d : shDisk.D) (r : Int) (B0 : Nat) (G : List Nat) (w : World) (ho : Own shDisk w B0 cs d G) (hs : shDisk.sz d ≤ 1048576) (hok : implOkB d = true) (hok2 : implOkB (roomD d r) = true) :
    Calls Try.prog 6 #[.agg cs.toArray, .int .i64 r] w fun e w' => ∃ cs' F, e = .returned (.tuple #[.agg cs'.toArray, .bool true]) ∧ Own shDisk w' w.heap.size cs' (roomD d r) F ∧ F.Nodup ∧ Below w.heap.size w w' := by
  obtain ⟨a3, n3, c3, F3, a4, n4, c4, F4, a5, n5, c5, F5, rfl, _, o3, o4, o5⟩ := openO_Disk ho
  obtain ⟨x0, e0⟩ : ∃ x : Int, x = d.1 := ⟨_, rfl⟩
  obtain ⟨x1, e1⟩ : ∃ x : Int, x = d.2.1 := ⟨_, rfl⟩
  obtain ⟨x2, e2⟩ : ∃ x : Int, x = d.2.2.1 := ⟨_, rfl⟩
  have qok : Hid (∀ w', Below w.heap.size w w' → Calls Try.prog 17 #[.agg #[.int .i64 x0, .int .i64 x1, .int .i64 x2, .slice a3 n3 c3, .slice a4 n4 c4, .slice a5 n5 c5]] w' fun e w'' => e = .returned (.bool true) ∧ Below w'.heap.size w' w'') := fun w' h' => by
    rw [e0, e1, e2, ← hok]; exact specOkB_ok _ d w' (ho.reads.later h') hs
  have qrt : Hid (∀ w', Below w.heap.size w w' → Calls Try.prog 18 #[.agg #[.int .i64 r, .int .i64 x1, .int .i64 x2, .slice a3 n3 c3, .slice a4 n4 c4, .slice a5 n5 c5], .bool true] w' fun e w'' => ∃ cs' F, e = .returned (.tuple #[.agg cs'.toArray, .bool true]) ∧ Own shDisk w'' w'.heap.size cs' (roomD d r) F ∧ F.Nodup ∧ Below w'.heap.size w' w'') := fun w' h' => by
    have hk : Own shDisk w' B0 [.int .i64 r, .int .i64 x1, .int .i64 x2, .slice a3 n3 c3, .slice a4 n4 c4, .slice a5 n5 c5] (roomD d r) (F3 ++ (F4 ++ (F5 ++ []))) := by
      have := own_Disk (d := (roomD d r)) (o3.later h') (o4.later h') (o5.later h')
      rw [e1, e2]; exact this
    exact l04If_true _ _ B0 _ w' hk (by rw [sz_Disk] at hs ⊢; exact hs) hok2
  rw [← e0, ← e1, ← e2]
  obtain ⟨W1, hW1⟩ : ∃ W, W = (w.alloc (.cells #[.int .i64 x0, .int .i64 x1, .int .i64 x2, .slice a3 n3 c3, .slice a4 n4 c4, .slice a5 n5 c5] 32)).alloc (.cells #[.int .i64 0, .int .i64 0, .int .i64 0, .slice none 0 0, .slice none 0 0, .slice none 0 0] 32) := ⟨_, rfl⟩
  have bW1 : Below w.heap.size w W1 := by rw [hW1]; exact ((Below.refl _ _).alloc (Nat.le_refl _) _).alloc (by simp) _
  have zW1 : w.heap.size + 1 < W1.heap.size := by rw [hW1]; simp
  have hbd : W1.heap[w.heap.size]? = some (.cells #[.int .i64 x0, .int .i64 x1, .int .i64 x2, .slice a3 n3 c3, .slice a4 n4 c4, .slice a5 n5 c5] 32 (0, 0)) := by rw [hW1]; exact (heap_alloc_old _ _ (by simp)).trans (heap_alloc_new w _)
  have hbr : W1.heap[w.heap.size + 1]? = some (.cells #[.int .i64 0, .int .i64 0, .int .i64 0, .slice none 0 0, .slice none 0 0, .slice none 0 0] 32 (0, 0)) := by
    rw [hW1]
    have := heap_alloc_new (w.alloc (.cells #[.int .i64 x0, .int .i64 x1, .int .i64 x2, .slice a3 n3 c3, .slice a4 n4 c4, .slice a5 n5 c5] 32)) (.cells #[.int .i64 0, .int .i64 0, .int .i64 0, .slice none 0 0, .slice none 0 0, .slice none 0 0] 32)
    simpa using this
  have HW1 : Hid (W1 = (w.alloc (.cells #[.int .i64 x0, .int .i64 x1, .int .i64 x2, .slice a3 n3 c3, .slice a4 n4 c4, .slice a5 n5 c5] 32)).alloc (.cells #[.int .i64 0, .int .i64 0, .int .i64 0, .slice none 0 0, .slice none 0 0, .slice none 0 0] 32)) := hW1
  have BX : Hid (∀ w', Below W1.heap.size W1 w' → w'.heap[w.heap.size]? = some (.cells #[.int .i64 x0, .int .i64 x1, .int .i64 x2, .slice a3 n3 c3, .slice a4 n4 c4, .slice a5 n5 c5] 32 (0, 0)) ∧ w'.heap[w.heap.size + 1]? = some (.cells #[.int .i64 0, .int .i64 0, .int .i64 0, .slice none 0 0, .slice none 0 0, .slice none 0 0] 32 (0, 0))) := fun w' h' => ⟨(h'.block _ (by omega)).trans hbd, (h'.block _ zW1).trans hbr⟩
  have HE : Hid (x0 = d.1 ∧ x1 = d.2.1 ∧ x2 = d.2.2.1) := ⟨e0, e1, e2⟩
  clear ho hs o3 o4 o5 e0 e1 e2 hok hW1 hbd hbr hok2
  go_enter Try.func6, Try.ntmps6
  go_wp2_with fail
  rw [← HW1.out]
  refine (qok.out _ bW1).mono ?_
  rintro e w1 ⟨rfl, hb1⟩
  have b1 := bW1.trans (hb1.mono bW1.size)
  obtain ⟨hd, hz⟩ := BX.out w1 hb1
  have z1 := hb1.size
  have y0 : w1.cell? ⟨w.heap.size, 0, none⟩ = some (.int .i64 x0) := box_cell hd rfl
  have y1 : w1.cell? ⟨w.heap.size, 1, none⟩ = some (.int .i64 x1) := box_cell hd rfl
  have y2 : w1.cell? ⟨w.heap.size, 2, none⟩ = some (.int .i64 x2) := box_cell hd rfl
  have y3 : w1.cell? ⟨w.heap.size, 3, none⟩ = some (.slice a3 n3 c3) := box_cell hd rfl
  have y4 : w1.cell? ⟨w.heap.size, 4, none⟩ = some (.slice a4 n4 c4) := box_cell hd rfl
  have y5 : w1.cell? ⟨w.heap.size, 5, none⟩ = some (.slice a5 n5 c5) := box_cell hd rfl
  have g0 : w1.frozen? ⟨w.heap.size, 0, none⟩ = false := box_frozen hd
  obtain ⟨U, hU⟩ : ∃ U, U = w1.setCell ⟨w.heap.size, 0, none⟩ (.int .i64 r) := ⟨_, rfl⟩
  have bU : Below w.heap.size w U := by rw [hU]; exact b1.setCell (Nat.le_refl _) _
  have zU : U.heap.size = w1.heap.size := by rw [hU]; simp
  have hzU : U.heap[w.heap.size + 1]? = some (.cells #[.int .i64 0, .int .i64 0, .int .i64 0, .slice none 0 0, .slice none 0 0, .slice none 0 0] 32 (0, 0)) := by rw [hU]; exact (box_other _ (by omega)).trans hz
  have HU : Hid (U = w1.setCell ⟨w.heap.size, 0, none⟩ (.int .i64 r) ∧ w.heap.size + 1 < U.heap.size) := ⟨hU, by omega⟩
  have zlt : w.heap.size < w1.heap.size := by omega
  clear hb1 hd hz hU
  go_wp2_with fail
  rw [← HU.out.1]
  refine (qrt.out _ bU).mono ?_
  rintro e w2 ⟨cs', F, he, p, nd, hb2⟩
  have b2 := bU.trans (hb2.mono bU.size)
  have hz2 := (hb2.block _ HU.out.2).trans hzU
  have z2 := hb2.size
  obtain ⟨p3, r3, s3, p4, r4, s4, p5, r5, s5, hcs, _⟩ := open_Disk p.reads
  have hcs' : cs' = [.int .i64 r, .int .i64 x1, .int .i64 x2, .slice p3 r3 s3, .slice p4 r4 s4, .slice p5 r5 s5] := hcs.trans (by rw [HE.out.2.1, HE.out.2.2]; rfl)
  clear hcs
  subst hcs'
  subst he
  have m0 : w2.cell? ⟨w.heap.size + 1, 0, none⟩ = some (.int .i64 0) := box_cell hz2 rfl
  have m1 : w2.cell? ⟨w.heap.size + 1, 1, none⟩ = some (.int .i64 0) := box_cell hz2 rfl
  have m2 : w2.cell? ⟨w.heap.size + 1, 2, none⟩ = some (.int .i64 0) := box_cell hz2 rfl
  have m3 : w2.cell? ⟨w.heap.size + 1, 3, none⟩ = some (.slice none 0 0) := box_cell hz2 rfl
  have m4 : w2.cell? ⟨w.heap.size + 1, 4, none⟩ = some (.slice none 0 0) := box_cell hz2 rfl
  have m5 : w2.cell? ⟨w.heap.size + 1, 5, none⟩ = some (.slice none 0 0) := box_cell hz2 rfl
  have u0 : w2.frozen? ⟨w.heap.size + 1, 0, none⟩ = false := box_frozen hz2
  have u1 : w2.frozen? ⟨w.heap.size + 1, 1, none⟩ = false := box_frozen hz2
  have u2 : w2.frozen? ⟨w.heap.size + 1, 2, none⟩ = false := box_frozen hz2
  have u3 : w2.frozen? ⟨w.heap.size + 1, 3, none⟩ = false := box_frozen hz2
  have u4 : w2.frozen? ⟨w.heap.size + 1, 4, none⟩ = false := box_frozen hz2
  have u5 : w2.frozen? ⟨w.heap.size + 1, 5, none⟩ = false := box_frozen hz2
  have hfin : ∃ X, X = ((((((w2.setCell ⟨w.heap.size + 1, 0, none⟩ (.int .i64 r)).setCell ⟨w.heap.size + 1, 1, none⟩ (.int .i64 x1)).setCell ⟨w.heap.size + 1, 2, none⟩ (.int .i64 x2)).setCell ⟨w.heap.size + 1, 3, none⟩ (.slice p3 r3 s3)).setCell ⟨w.heap.size + 1, 4, none⟩ (.slice p4 r4 s4)).setCell ⟨w.heap.size + 1, 5, none⟩ (.slice p5 r5 s5)) ∧ Below w.heap.size w X ∧ X.heap[w.heap.size + 1]? = some (.cells #[.int .i64 r, .int .i64 x1, .int .i64 x2, .slice p3 r3 s3, .slice p4 r4 s4, .slice p5 r5 s5] 32 (0, 0)) ∧ Own shDisk X w.heap.size [.int .i64 r, .int .i64 x1, .int .i64 x2, .slice p3 r3 s3, .slice p4 r4 s4, .slice p5 r5 s5] (roomD d r) F := ⟨_, rfl, ((((((b2).setCell (by show w.heap.size ≤ w.heap.size + 1; omega) _).setCell (by show w.heap.size ≤ w.heap.size + 1; omega) _).setCell (by show w.heap.size ≤ w.heap.size + 1; omega) _).setCell (by show w.heap.size ≤ w.heap.size + 1; omega) _).setCell (by show w.heap.size ≤ w.heap.size + 1; omega) _).setCell (by show w.heap.size ≤ w.heap.size + 1; omega) _, by rw [(box_set (j := 5) (.slice p5 r5 s5) (box_set (j := 4) (.slice p4 r4 s4) (box_set (j := 3) (.slice p3 r3 s3) (box_set (j := 2) (.int .i64 x2) (box_set (j := 1) (.int .i64 x1) (box_set (j := 0) (.int .i64 r) hz2))))))]; rfl, (p.keep fun y hy => ((box_other (b := w.heap.size + 1) (j := 5) (.slice p5 r5 s5) (by have := (p.lt y hy).1; have := HU.out.2; omega)).trans ((box_other (b := w.heap.size + 1) (j := 4) (.slice p4 r4 s4) (by have := (p.lt y hy).1; have := HU.out.2; omega)).trans ((box_other (b := w.heap.size + 1) (j := 3) (.slice p3 r3 s3) (by have := (p.lt y hy).1; have := HU.out.2; omega)).trans ((box_other (b := w.heap.size + 1) (j := 2) (.int .i64 x2) (by have := (p.lt y hy).1; have := HU.out.2; omega)).trans ((box_other (b := w.heap.size + 1) (j := 1) (.int .i64 x1) (by have := (p.lt y hy).1; have := HU.out.2; omega)).trans (box_other (b := w.heap.size + 1) (j := 0) (.int .i64 r) (by have := (p.lt y hy).1; have := HU.out.2; omega)))))))).base bU.size⟩
  obtain ⟨WF, hWF, bF, xF, oF⟩ := hfin
  have f0 : WF.cell? ⟨w.heap.size + 1, 0, none⟩ = some (.int .i64 r) := box_cell xF rfl
  have f1 : WF.cell? ⟨w.heap.size + 1, 1, none⟩ = some (.int .i64 x1) := box_cell xF rfl
  have f2 : WF.cell? ⟨w.heap.size + 1, 2, none⟩ = some (.int .i64 x2) := box_cell xF rfl
  have f3 : WF.cell? ⟨w.heap.size + 1, 3, none⟩ = some (.slice p3 r3 s3) := box_cell xF rfl
  have f4 : WF.cell? ⟨w.heap.size + 1, 4, none⟩ = some (.slice p4 r4 s4) := box_cell xF rfl
  have f5 : WF.cell? ⟨w.heap.size + 1, 5, none⟩ = some (.slice p5 r5 s5) := box_cell xF rfl
  have HF : Hid (WF = ((((((w2.setCell ⟨w.heap.size + 1, 0, none⟩ (.int .i64 r)).setCell ⟨w.heap.size + 1, 1, none⟩ (.int .i64 x1)).setCell ⟨w.heap.size + 1, 2, none⟩ (.int .i64 x2)).setCell ⟨w.heap.size + 1, 3, none⟩ (.slice p3 r3 s3)).setCell ⟨w.heap.size + 1, 4, none⟩ (.slice p4 r4 s4)).setCell ⟨w.heap.size + 1, 5, none⟩ (.slice p5 r5 s5)) ∧ Own shDisk WF w.heap.size [.int .i64 r, .int .i64 x1, .int .i64 x2, .slice p3 r3 s3, .slice p4 r4 s4, .slice p5 r5 s5] (roomD d r) F ∧ F.Nodup) := ⟨hWF, oF, nd⟩
  clear hWF xF oF p nd hb2 hz2 hzU zU y0 y1 y2 y3 y4 y5
  go_wp2
  rw [← HF.out.1]
  exact bodyPost_ret (v := .tuple #[.agg #[.int .i64 r, .int .i64 x1, .int .i64 x2, .slice p3 r3 s3, .slice p4 r4 s4, .slice p5 r5 s5], .bool true]) (by simp [results, Try.results6, go_sem, f0, f1, f2, f3, f4, f5]) rfl ⟨_, F, rfl, HF.out.2.1, HF.out.2.2, bF⟩

set_option maxRecDepth 100000 in
set_option maxHeartbeats 4000000 in
theorem specDiskFuse_bad (cs : List Value) (d : shDisk.D) (r : Int) (B0 : Nat) (G : List Nat) (w : World) (ho : Own shDisk w B0 cs d G) (hs : shDisk.sz d ≤ 1048576) (hok : implOkB d = false) :
    Calls Try.prog 12 #[.agg cs.toArray, .int .i64 r] w fun e w' => e = .returned (.tuple #[.agg #[.int .i64 0, .int .i64 0, .int .i64 0, .slice none 0 0, .slice none 0 0, .slice none 0 0], .bool false]) ∧ Below w.heap.size w w' := by
  obtain ⟨a3, n3, c3, F3, a4, n4, c4, F4, a5, n5, c5, F5, rfl, _, o3, o4, o5⟩ := openO_Disk ho
  obtain ⟨x0, e0⟩ : ∃ x : Int, x = d.1 := ⟨_, rfl⟩
  obtain ⟨x1, e1⟩ : ∃ x : Int, x = d.2.1 := ⟨_, rfl⟩
  obtain ⟨x2, e2⟩ : ∃ x : Int, x = d.2.2.1 := ⟨_, rfl⟩
  have qok : Hid (∀ w', Below w.heap.size w w' → Calls Try.prog 17 #[.agg #[.int .i64 x0, .int .i64 x1, .int .i64 x2, .slice a3 n3 c3, .slice a4 n4 c4, .slice a5 n5 c5]] w' fun e w'' => e = .returned (.bool false) ∧ Below w'.heap.size w' w'') := fun w' h' => by
    rw [e0, e1, e2, ← hok]; exact specOkB_ok _ d w' (ho.reads.later h') hs
  have qrt : Hid (∀ w', Below w.heap.size w w' → Calls Try.prog 18 #[.agg #[.int .i64 x0, .int .i64 r, .int .i64 x2, .slice a3 n3 c3, .slice a4 n4 c4, .slice a5 n5 c5], .bool false] w' fun e w'' => e = .returned (.tuple #[.agg #[.int .i64 0, .int .i64 0, .int .i64 0, .slice none 0 0, .slice none 0 0, .slice none 0 0], .bool false]) ∧ Below w'.heap.size w' w'') := fun w' h' => l04If_off _ w' ⟨_, _, _, _, _, _, _, _, _, _, _, _, rfl⟩
  rw [← e0, ← e1, ← e2]
  obtain ⟨W1, hW1⟩ : ∃ W, W = (w.alloc (.cells #[.int .i64 x0, .int .i64 x1, .int .i64 x2, .slice a3 n3 c3, .slice a4 n4 c4, .slice a5 n5 c5] 32)).alloc (.cells #[.int .i64 0, .int .i64 0, .int .i64 0, .slice none 0 0, .slice none 0 0, .slice none 0 0] 32) := ⟨_, rfl⟩
  have bW1 : Below w.heap.size w W1 := by rw [hW1]; exact ((Below.refl _ _).alloc (Nat.le_refl _) _).alloc (by simp) _
  have zW1 : w.heap.size + 1 < W1.heap.size := by rw [hW1]; simp
  have hbd : W1.heap[w.heap.size]? = some (.cells #[.int .i64 x0, .int .i64 x1, .int .i64 x2, .slice a3 n3 c3, .slice a4 n4 c4, .slice a5 n5 c5] 32 (0, 0)) := by rw [hW1]; exact (heap_alloc_old _ _ (by simp)).trans (heap_alloc_new w _)
  have hbr : W1.heap[w.heap.size + 1]? = some (.cells #[.int .i64 0, .int .i64 0, .int .i64 0, .slice none 0 0, .slice none 0 0, .slice none 0 0] 32 (0, 0)) := by
    rw [hW1]
    have := heap_alloc_new (w.alloc (.cells #[.int .i64 x0, .int .i64 x1, .int .i64 x2, .slice a3 n3 c3, .slice a4 n4 c4, .slice a5 n5 c5] 32)) (.cells #[.int .i64 0, .int .i64 0, .int .i64 0, .slice none 0 0, .slice none 0 0, .slice none 0 0] 32)
    simpa using this
  have HW1 : Hid (W1 = (w.alloc (.cells #[.int .i64 x0, .int .i64 x1, .int .i64 x2, .slice a3 n3 c3, .slice a4 n4 c4, .slice a5 n5 c5] 32)).alloc (.cells #[.int .i64 0, .int .i64 0, .int .i64 0, .slice none 0 0, .slice none 0 0, .slice none 0 0] 32)) := hW1
  have BX : Hid (∀ w', Below W1.heap.size W1 w' → w'.heap[w.heap.size]? = some (.cells #[.int .i64 x0, .int .i64 x1, .int .i64 x2, .slice a3 n3 c3, .slice a4 n4 c4, .slice a5 n5 c5] 32 (0, 0)) ∧ w'.heap[w.heap.size + 1]? = some (.cells #[.int .i64 0, .int .i64 0, .int .i64 0, .slice none 0 0, .slice none 0 0, .slice none 0 0] 32 (0, 0))) := fun w' h' => ⟨(h'.block _ (by omega)).trans hbd, (h'.block _ zW1).trans hbr⟩
  have HE : Hid (x0 = d.1 ∧ x1 = d.2.1 ∧ x2 = d.2.2.1) := ⟨e0, e1, e2⟩
  clear ho hs o3 o4 o5 e0 e1 e2 hok hW1 hbd hbr
  go_enter Try.func12, Try.ntmps12
  go_wp2_with fail
  rw [← HW1.out]
  refine (qok.out _ bW1).mono ?_
  rintro e w1 ⟨rfl, hb1⟩
  have b1 := bW1.trans (hb1.mono bW1.size)
  obtain ⟨hd, hz⟩ := BX.out w1 hb1
  have z1 := hb1.size
  have y0 : w1.cell? ⟨w.heap.size, 0, none⟩ = some (.int .i64 x0) := box_cell hd rfl
  have y1 : w1.cell? ⟨w.heap.size, 1, none⟩ = some (.int .i64 x1) := box_cell hd rfl
  have y2 : w1.cell? ⟨w.heap.size, 2, none⟩ = some (.int .i64 x2) := box_cell hd rfl
  have y3 : w1.cell? ⟨w.heap.size, 3, none⟩ = some (.slice a3 n3 c3) := box_cell hd rfl
  have y4 : w1.cell? ⟨w.heap.size, 4, none⟩ = some (.slice a4 n4 c4) := box_cell hd rfl
  have y5 : w1.cell? ⟨w.heap.size, 5, none⟩ = some (.slice a5 n5 c5) := box_cell hd rfl
  have g1 : w1.frozen? ⟨w.heap.size, 1, none⟩ = false := box_frozen hd
  obtain ⟨U, hU⟩ : ∃ U, U = w1.setCell ⟨w.heap.size, 1, none⟩ (.int .i64 r) := ⟨_, rfl⟩
  have bU : Below w.heap.size w U := by rw [hU]; exact b1.setCell (Nat.le_refl _) _
  have zU : U.heap.size = w1.heap.size := by rw [hU]; simp
  have hzU : U.heap[w.heap.size + 1]? = some (.cells #[.int .i64 0, .int .i64 0, .int .i64 0, .slice none 0 0, .slice none 0 0, .slice none 0 0] 32 (0, 0)) := by rw [hU]; exact (box_other _ (by omega)).trans hz
  have HU : Hid (U = w1.setCell ⟨w.heap.size, 1, none⟩ (.int .i64 r) ∧ w.heap.size + 1 < U.heap.size) := ⟨hU, by omega⟩
  have zlt : w.heap.size < w1.heap.size := by omega
  clear hb1 hd hz hU
  go_wp2_with fail
  rw [← HU.out.1]
  refine (qrt.out _ bU).mono ?_
  rintro e w2 ⟨rfl, hb2⟩
  have b2 := bU.trans (hb2.mono bU.size)
  have hz := (hb2.block _ HU.out.2).trans hzU
  have z2 := hb2.size
  have m0 : w2.cell? ⟨w.heap.size + 1, 0, none⟩ = some (.int .i64 0) := box_cell hz rfl
  have m1 : w2.cell? ⟨w.heap.size + 1, 1, none⟩ = some (.int .i64 0) := box_cell hz rfl
  have m2 : w2.cell? ⟨w.heap.size + 1, 2, none⟩ = some (.int .i64 0) := box_cell hz rfl
  have m3 : w2.cell? ⟨w.heap.size + 1, 3, none⟩ = some (.slice none 0 0) := box_cell hz rfl
  have m4 : w2.cell? ⟨w.heap.size + 1, 4, none⟩ = some (.slice none 0 0) := box_cell hz rfl
  have m5 : w2.cell? ⟨w.heap.size + 1, 5, none⟩ = some (.slice none 0 0) := box_cell hz rfl
  have u0 : w2.frozen? ⟨w.heap.size + 1, 0, none⟩ = false := box_frozen hz
  have u1 : w2.frozen? ⟨w.heap.size + 1, 1, none⟩ = false := box_frozen hz
  have u2 : w2.frozen? ⟨w.heap.size + 1, 2, none⟩ = false := box_frozen hz
  have u3 : w2.frozen? ⟨w.heap.size + 1, 3, none⟩ = false := box_frozen hz
  have u4 : w2.frozen? ⟨w.heap.size + 1, 4, none⟩ = false := box_frozen hz
  have u5 : w2.frozen? ⟨w.heap.size + 1, 5, none⟩ = false := box_frozen hz
  have hfin : ∃ X, X = ((((((w2.setCell ⟨w.heap.size + 1, 0, none⟩ (.int .i64 0)).setCell ⟨w.heap.size + 1, 1, none⟩ (.int .i64 0)).setCell ⟨w.heap.size + 1, 2, none⟩ (.int .i64 0)).setCell ⟨w.heap.size + 1, 3, none⟩ (.slice none 0 0)).setCell ⟨w.heap.size + 1, 4, none⟩ (.slice none 0 0)).setCell ⟨w.heap.size + 1, 5, none⟩ (.slice none 0 0)) ∧ Below w.heap.size w X ∧ X.heap[w.heap.size + 1]? = some (.cells #[.int .i64 0, .int .i64 0, .int .i64 0, .slice none 0 0, .slice none 0 0, .slice none 0 0] 32 (0, 0)) := ⟨_, rfl, ((((((b2).setCell (by show w.heap.size ≤ w.heap.size + 1; omega) _).setCell (by show w.heap.size ≤ w.heap.size + 1; omega) _).setCell (by show w.heap.size ≤ w.heap.size + 1; omega) _).setCell (by show w.heap.size ≤ w.heap.size + 1; omega) _).setCell (by show w.heap.size ≤ w.heap.size + 1; omega) _).setCell (by show w.heap.size ≤ w.heap.size + 1; omega) _, by rw [(box_set (j := 5) (.slice none 0 0) (box_set (j := 4) (.slice none 0 0) (box_set (j := 3) (.slice none 0 0) (box_set (j := 2) (.int .i64 0) (box_set (j := 1) (.int .i64 0) (box_set (j := 0) (.int .i64 0) hz))))))]; rfl⟩
  obtain ⟨WF, hWF, bF, xF⟩ := hfin
  have f0 : WF.cell? ⟨w.heap.size + 1, 0, none⟩ = some (.int .i64 0) := box_cell xF rfl
  have f1 : WF.cell? ⟨w.heap.size + 1, 1, none⟩ = some (.int .i64 0) := box_cell xF rfl
  have f2 : WF.cell? ⟨w.heap.size + 1, 2, none⟩ = some (.int .i64 0) := box_cell xF rfl
  have f3 : WF.cell? ⟨w.heap.size + 1, 3, none⟩ = some (.slice none 0 0) := box_cell xF rfl
  have f4 : WF.cell? ⟨w.heap.size + 1, 4, none⟩ = some (.slice none 0 0) := box_cell xF rfl
  have f5 : WF.cell? ⟨w.heap.size + 1, 5, none⟩ = some (.slice none 0 0) := box_cell xF rfl
  have HF : Hid (WF = ((((((w2.setCell ⟨w.heap.size + 1, 0, none⟩ (.int .i64 0)).setCell ⟨w.heap.size + 1, 1, none⟩ (.int .i64 0)).setCell ⟨w.heap.size + 1, 2, none⟩ (.int .i64 0)).setCell ⟨w.heap.size + 1, 3, none⟩ (.slice none 0 0)).setCell ⟨w.heap.size + 1, 4, none⟩ (.slice none 0 0)).setCell ⟨w.heap.size + 1, 5, none⟩ (.slice none 0 0))) := hWF
  clear hb2 hz hzU hWF xF y0 y1 y2 y3 y4 y5 zU
  go_wp2
  rw [← HF.out]
  exact bodyPost_ret (v := .tuple #[.agg #[.int .i64 0, .int .i64 0, .int .i64 0, .slice none 0 0, .slice none 0 0, .slice none 0 0], .bool false]) (by simp [results, Try.results12, go_sem, f0, f1, f2, f3, f4, f5]) rfl ⟨rfl, bF⟩

set_option maxRecDepth 100000 in
set_option maxHeartbeats 4000000 in
theorem specDiskFuse_no (cs : List Value) (d : shDisk.D) (r : Int) (B0 : Nat) (G : List Nat) (w : World) (ho : Own shDisk w B0 cs d G) (hs : shDisk.sz d ≤ 1048576) (hok : implOkB d = true) (hok2 : implOkB (fuseD d r) = false) :
    Calls Try.prog 12 #[.agg cs.toArray, .int .i64 r] w fun e w' => e = .returned (.tuple #[.agg #[.int .i64 0, .int .i64 0, .int .i64 0, .slice none 0 0, .slice none 0 0, .slice none 0 0], .bool false]) ∧ Below w.heap.size w w' := by
  obtain ⟨a3, n3, c3, F3, a4, n4, c4, F4, a5, n5, c5, F5, rfl, _, o3, o4, o5⟩ := openO_Disk ho
  obtain ⟨x0, e0⟩ : ∃ x : Int, x = d.1 := ⟨_, rfl⟩
  obtain ⟨x1, e1⟩ : ∃ x : Int, x = d.2.1 := ⟨_, rfl⟩
  obtain ⟨x2, e2⟩ : ∃ x : Int, x = d.2.2.1 := ⟨_, rfl⟩
  have qok : Hid (∀ w', Below w.heap.size w w' → Calls Try.prog 17 #[.agg #[.int .i64 x0, .int .i64 x1, .int .i64 x2, .slice a3 n3 c3, .slice a4 n4 c4, .slice a5 n5 c5]] w' fun e w'' => e = .returned (.bool true) ∧ Below w'.heap.size w' w'') := fun w' h' => by
    rw [e0, e1, e2, ← hok]; exact specOkB_ok _ d w' (ho.reads.later h') hs
  have qrt : Hid (∀ w', Below w.heap.size w w' → Calls Try.prog 18 #[.agg #[.int .i64 x0, .int .i64 r, .int .i64 x2, .slice a3 n3 c3, .slice a4 n4 c4, .slice a5 n5 c5], .bool true] w' fun e w'' => e = .returned (.tuple #[.agg #[.int .i64 0, .int .i64 0, .int .i64 0, .slice none 0 0, .slice none 0 0, .slice none 0 0], .bool false]) ∧ Below w'.heap.size w' w'') := fun w' h' => by
    have hk : Own shDisk w' B0 [.int .i64 x0, .int .i64 r, .int .i64 x2, .slice a3 n3 c3, .slice a4 n4 c4, .slice a5 n5 c5] (fuseD d r) (F3 ++ (F4 ++ (F5 ++ []))) := by
      have := own_Disk (d := (fuseD d r)) (o3.later h') (o4.later h') (o5.later h')
      rw [e0, e2]; exact this
    exact l04If_false _ _ B0 _ w' hk (by rw [sz_Disk] at hs ⊢; exact hs) hok2
  rw [← e0, ← e1, ← e2]
  obtain ⟨W1, hW1⟩ : ∃ W, W = (w.alloc (.cells #[.int .i64 x0, .int .i64 x1, .int .i64 x2, .slice a3 n3 c3, .slice a4 n4 c4, .slice a5 n5 c5] 32)).alloc (.cells #[.int .i64 0, .int .i64 0, .int .i64 0, .slice none 0 0, .slice none 0 0, .slice none 0 0] 32) := ⟨_, rfl⟩
  have bW1 : Below w.heap.size w W1 := by rw [hW1]; exact ((Below.refl _ _).alloc (Nat.le_refl _) _).alloc (by simp) _
  have zW1 : w.heap.size + 1 < W1.heap.size := by rw [hW1]; simp
  have hbd : W1.heap[w.heap.size]? = some (.cells #[.int .i64 x0, .int .i64 x1, .int .i64 x2, .slice a3 n3 c3, .slice a4 n4 c4, .slice a5 n5 c5] 32 (0, 0)) := by rw [hW1]; exact (heap_alloc_old _ _ (by simp)).trans (heap_alloc_new w _)
  have hbr : W1.heap[w.heap.size + 1]? = some (.cells #[.int .i64 0, .int .i64 0, .int .i64 0, .slice none 0 0, .slice none 0 0, .slice none 0 0] 32 (0, 0)) := by
    rw [hW1]
    have := heap_alloc_new (w.alloc (.cells #[.int .i64 x0, .int .i64 x1, .int .i64 x2, .slice a3 n3 c3, .slice a4 n4 c4, .slice a5 n5 c5] 32)) (.cells #[.int .i64 0, .int .i64 0, .int .i64 0, .slice none 0 0, .slice none 0 0, .slice none 0 0] 32)
    simpa using this
  have HW1 : Hid (W1 = (w.alloc (.cells #[.int .i64 x0, .int .i64 x1, .int .i64 x2, .slice a3 n3 c3, .slice a4 n4 c4, .slice a5 n5 c5] 32)).alloc (.cells #[.int .i64 0, .int .i64 0, .int .i64 0, .slice none 0 0, .slice none 0 0, .slice none 0 0] 32)) := hW1
  have BX : Hid (∀ w', Below W1.heap.size W1 w' → w'.heap[w.heap.size]? = some (.cells #[.int .i64 x0, .int .i64 x1, .int .i64 x2, .slice a3 n3 c3, .slice a4 n4 c4, .slice a5 n5 c5] 32 (0, 0)) ∧ w'.heap[w.heap.size + 1]? = some (.cells #[.int .i64 0, .int .i64 0, .int .i64 0, .slice none 0 0, .slice none 0 0, .slice none 0 0] 32 (0, 0))) := fun w' h' => ⟨(h'.block _ (by omega)).trans hbd, (h'.block _ zW1).trans hbr⟩
  have HE : Hid (x0 = d.1 ∧ x1 = d.2.1 ∧ x2 = d.2.2.1) := ⟨e0, e1, e2⟩
  clear ho hs o3 o4 o5 e0 e1 e2 hok hW1 hbd hbr hok2
  go_enter Try.func12, Try.ntmps12
  go_wp2_with fail
  rw [← HW1.out]
  refine (qok.out _ bW1).mono ?_
  rintro e w1 ⟨rfl, hb1⟩
  have b1 := bW1.trans (hb1.mono bW1.size)
  obtain ⟨hd, hz⟩ := BX.out w1 hb1
  have z1 := hb1.size
  have y0 : w1.cell? ⟨w.heap.size, 0, none⟩ = some (.int .i64 x0) := box_cell hd rfl
  have y1 : w1.cell? ⟨w.heap.size, 1, none⟩ = some (.int .i64 x1) := box_cell hd rfl
  have y2 : w1.cell? ⟨w.heap.size, 2, none⟩ = some (.int .i64 x2) := box_cell hd rfl
  have y3 : w1.cell? ⟨w.heap.size, 3, none⟩ = some (.slice a3 n3 c3) := box_cell hd rfl
  have y4 : w1.cell? ⟨w.heap.size, 4, none⟩ = some (.slice a4 n4 c4) := box_cell hd rfl
  have y5 : w1.cell? ⟨w.heap.size, 5, none⟩ = some (.slice a5 n5 c5) := box_cell hd rfl
  have g1 : w1.frozen? ⟨w.heap.size, 1, none⟩ = false := box_frozen hd
  obtain ⟨U, hU⟩ : ∃ U, U = w1.setCell ⟨w.heap.size, 1, none⟩ (.int .i64 r) := ⟨_, rfl⟩
  have bU : Below w.heap.size w U := by rw [hU]; exact b1.setCell (Nat.le_refl _) _
  have zU : U.heap.size = w1.heap.size := by rw [hU]; simp
  have hzU : U.heap[w.heap.size + 1]? = some (.cells #[.int .i64 0, .int .i64 0, .int .i64 0, .slice none 0 0, .slice none 0 0, .slice none 0 0] 32 (0, 0)) := by rw [hU]; exact (box_other _ (by omega)).trans hz
  have HU : Hid (U = w1.setCell ⟨w.heap.size, 1, none⟩ (.int .i64 r) ∧ w.heap.size + 1 < U.heap.size) := ⟨hU, by omega⟩
  have zlt : w.heap.size < w1.heap.size := by omega
  clear hb1 hd hz hU
  go_wp2_with fail
  rw [← HU.out.1]
  refine (qrt.out _ bU).mono ?_
  rintro e w2 ⟨rfl, hb2⟩
  have b2 := bU.trans (hb2.mono bU.size)
  have hz := (hb2.block _ HU.out.2).trans hzU
  have z2 := hb2.size
  have m0 : w2.cell? ⟨w.heap.size + 1, 0, none⟩ = some (.int .i64 0) := box_cell hz rfl
  have m1 : w2.cell? ⟨w.heap.size + 1, 1, none⟩ = some (.int .i64 0) := box_cell hz rfl
  have m2 : w2.cell? ⟨w.heap.size + 1, 2, none⟩ = some (.int .i64 0) := box_cell hz rfl
  have m3 : w2.cell? ⟨w.heap.size + 1, 3, none⟩ = some (.slice none 0 0) := box_cell hz rfl
  have m4 : w2.cell? ⟨w.heap.size + 1, 4, none⟩ = some (.slice none 0 0) := box_cell hz rfl
  have m5 : w2.cell? ⟨w.heap.size + 1, 5, none⟩ = some (.slice none 0 0) := box_cell hz rfl
  have u0 : w2.frozen? ⟨w.heap.size + 1, 0, none⟩ = false := box_frozen hz
  have u1 : w2.frozen? ⟨w.heap.size + 1, 1, none⟩ = false := box_frozen hz
  have u2 : w2.frozen? ⟨w.heap.size + 1, 2, none⟩ = false := box_frozen hz
  have u3 : w2.frozen? ⟨w.heap.size + 1, 3, none⟩ = false := box_frozen hz
  have u4 : w2.frozen? ⟨w.heap.size + 1, 4, none⟩ = false := box_frozen hz
  have u5 : w2.frozen? ⟨w.heap.size + 1, 5, none⟩ = false := box_frozen hz
  have hfin : ∃ X, X = ((((((w2.setCell ⟨w.heap.size + 1, 0, none⟩ (.int .i64 0)).setCell ⟨w.heap.size + 1, 1, none⟩ (.int .i64 0)).setCell ⟨w.heap.size + 1, 2, none⟩ (.int .i64 0)).setCell ⟨w.heap.size + 1, 3, none⟩ (.slice none 0 0)).setCell ⟨w.heap.size + 1, 4, none⟩ (.slice none 0 0)).setCell ⟨w.heap.size + 1, 5, none⟩ (.slice none 0 0)) ∧ Below w.heap.size w X ∧ X.heap[w.heap.size + 1]? = some (.cells #[.int .i64 0, .int .i64 0, .int .i64 0, .slice none 0 0, .slice none 0 0, .slice none 0 0] 32 (0, 0)) := ⟨_, rfl, ((((((b2).setCell (by show w.heap.size ≤ w.heap.size + 1; omega) _).setCell (by show w.heap.size ≤ w.heap.size + 1; omega) _).setCell (by show w.heap.size ≤ w.heap.size + 1; omega) _).setCell (by show w.heap.size ≤ w.heap.size + 1; omega) _).setCell (by show w.heap.size ≤ w.heap.size + 1; omega) _).setCell (by show w.heap.size ≤ w.heap.size + 1; omega) _, by rw [(box_set (j := 5) (.slice none 0 0) (box_set (j := 4) (.slice none 0 0) (box_set (j := 3) (.slice none 0 0) (box_set (j := 2) (.int .i64 0) (box_set (j := 1) (.int .i64 0) (box_set (j := 0) (.int .i64 0) hz))))))]; rfl⟩
  obtain ⟨WF, hWF, bF, xF⟩ := hfin
  have f0 : WF.cell? ⟨w.heap.size + 1, 0, none⟩ = some (.int .i64 0) := box_cell xF rfl
  have f1 : WF.cell? ⟨w.heap.size + 1, 1, none⟩ = some (.int .i64 0) := box_cell xF rfl
  have f2 : WF.cell? ⟨w.heap.size + 1, 2, none⟩ = some (.int .i64 0) := box_cell xF rfl
  have f3 : WF.cell? ⟨w.heap.size + 1, 3, none⟩ = some (.slice none 0 0) := box_cell xF rfl
  have f4 : WF.cell? ⟨w.heap.size + 1, 4, none⟩ = some (.slice none 0 0) := box_cell xF rfl
  have f5 : WF.cell? ⟨w.heap.size + 1, 5, none⟩ = some (.slice none 0 0) := box_cell xF rfl
  have HF : Hid (WF = ((((((w2.setCell ⟨w.heap.size + 1, 0, none⟩ (.int .i64 0)).setCell ⟨w.heap.size + 1, 1, none⟩ (.int .i64 0)).setCell ⟨w.heap.size + 1, 2, none⟩ (.int .i64 0)).setCell ⟨w.heap.size + 1, 3, none⟩ (.slice none 0 0)).setCell ⟨w.heap.size + 1, 4, none⟩ (.slice none 0 0)).setCell ⟨w.heap.size + 1, 5, none⟩ (.slice none 0 0))) := hWF
  clear hb2 hz hzU hWF xF y0 y1 y2 y3 y4 y5 zU
  go_wp2
  rw [← HF.out]
  exact bodyPost_ret (v := .tuple #[.agg #[.int .i64 0, .int .i64 0, .int .i64 0, .slice none 0 0, .slice none 0 0, .slice none 0 0], .bool false]) (by simp [results, Try.results12, go_sem, f0, f1, f2, f3, f4, f5]) rfl ⟨rfl, bF⟩

set_option maxRecDepth 100000 in
set_option maxHeartbeats 4000000 in
theorem specDiskFuse_yes (cs : List Value) (d : shDisk.D) (r : Int) (B0 : Nat) (G : List Nat) (w : World) (ho : Own shDisk w B0 cs d G) (hs : shDisk.sz d ≤ 1048576) (hok : implOkB d = true) (hok2 : implOkB (fuseD d r) = true) :
    Calls Try.prog 12 #[.agg cs.toArray, .int .i64 r] w fun e w' => ∃ cs' F, e = .returned (.tuple #[.agg cs'.toArray, .bool true]) ∧ Own shDisk w' w.heap.size cs' (fuseD d r) F ∧ F.Nodup ∧ Below w.heap.size w w' := by
  obtain ⟨a3, n3, c3, F3, a4, n4, c4, F4, a5, n5, c5, F5, rfl, _, o3, o4, o5⟩ := openO_Disk ho
  obtain ⟨x0, e0⟩ : ∃ x : Int, x = d.1 := ⟨_, rfl⟩
  obtain ⟨x1, e1⟩ : ∃ x : Int, x = d.2.1 := ⟨_, rfl⟩
  obtain ⟨x2, e2⟩ : ∃ x : Int, x = d.2.2.1 := ⟨_, rfl⟩
  have qok : Hid (∀ w', Below w.heap.size w w' → Calls Try.prog 17 #[.agg #[.int .i64 x0, .int .i64 x1, .int .i64 x2, .slice a3 n3 c3, .slice a4 n4 c4, .slice a5 n5 c5]] w' fun e w'' => e = .returned (.bool true) ∧ Below w'.heap.size w' w'') := fun w' h' => by
    rw [e0, e1, e2, ← hok]; exact specOkB_ok _ d w' (ho.reads.later h') hs
  have qrt : Hid (∀ w', Below w.heap.size w w' → Calls Try.prog 18 #[.agg #[.int .i64 x0, .int .i64 r, .int .i64 x2, .slice a3 n3 c3, .slice a4 n4 c4, .slice a5 n5 c5], .bool true] w' fun e w'' => ∃ cs' F, e = .returned (.tuple #[.agg cs'.toArray, .bool true]) ∧ Own shDisk w'' w'.heap.size cs' (fuseD d r) F ∧ F.Nodup ∧ Below w'.heap.size w' w'') := fun w' h' => by
    have hk : Own shDisk w' B0 [.int .i64 x0, .int .i64 r, .int .i64 x2, .slice a3 n3 c3, .slice a4 n4 c4, .slice a5 n5 c5] (fuseD d r) (F3 ++ (F4 ++ (F5 ++ []))) := by
      have := own_Disk (d := (fuseD d r)) (o3.later h') (o4.later h') (o5.later h')
      rw [e0, e2]; exact this
    exact l04If_true _ _ B0 _ w' hk (by rw [sz_Disk] at hs ⊢; exact hs) hok2
  rw [← e0, ← e1, ← e2]
  obtain ⟨W1, hW1⟩ : ∃ W, W = (w.alloc (.cells #[.int .i64 x0, .int .i64 x1, .int .i64 x2, .slice a3 n3 c3, .slice a4 n4 c4, .slice a5 n5 c5] 32)).alloc (.cells #[.int .i64 0, .int .i64 0, .int .i64 0, .slice none 0 0, .slice none 0 0, .slice none 0 0] 32) := ⟨_, rfl⟩
  have bW1 : Below w.heap.size w W1 := by rw [hW1]; exact ((Below.refl _ _).alloc (Nat.le_refl _) _).alloc (by simp) _
  have zW1 : w.heap.size + 1 < W1.heap.size := by rw [hW1]; simp
  have hbd : W1.heap[w.heap.size]? = some (.cells #[.int .i64 x0, .int .i64 x1, .int .i64 x2, .slice a3 n3 c3, .slice a4 n4 c4, .slice a5 n5 c5] 32 (0, 0)) := by rw [hW1]; exact (heap_alloc_old _ _ (by simp)).trans (heap_alloc_new w _)
  have hbr : W1.heap[w.heap.size + 1]? = some (.cells #[.int .i64 0, .int .i64 0, .int .i64 0, .slice none 0 0, .slice none 0 0, .slice none 0 0] 32 (0, 0)) := by
    rw [hW1]
    have := heap_alloc_new (w.alloc (.cells #[.int .i64 x0, .int .i64 x1, .int .i64 x2, .slice a3 n3 c3, .slice a4 n4 c4, .slice a5 n5 c5] 32)) (.cells #[.int .i64 0, .int .i64 0, .int .i64 0, .slice none 0 0, .slice none 0 0, .slice none 0 0] 32)
    simpa using this
  have HW1 : Hid (W1 = (w.alloc (.cells #[.int .i64 x0, .int .i64 x1, .int .i64 x2, .slice a3 n3 c3, .slice a4 n4 c4, .slice a5 n5 c5] 32)).alloc (.cells #[.int .i64 0, .int .i64 0, .int .i64 0, .slice none 0 0, .slice none 0 0, .slice none 0 0] 32)) := hW1
  have BX : Hid (∀ w', Below W1.heap.size W1 w' → w'.heap[w.heap.size]? = some (.cells #[.int .i64 x0, .int .i64 x1, .int .i64 x2, .slice a3 n3 c3, .slice a4 n4 c4, .slice a5 n5 c5] 32 (0, 0)) ∧ w'.heap[w.heap.size + 1]? = some (.cells #[.int .i64 0, .int .i64 0, .int .i64 0, .slice none 0 0, .slice none 0 0, .slice none 0 0] 32 (0, 0))) := fun w' h' => ⟨(h'.block _ (by omega)).trans hbd, (h'.block _ zW1).trans hbr⟩
  have HE : Hid (x0 = d.1 ∧ x1 = d.2.1 ∧ x2 = d.2.2.1) := ⟨e0, e1, e2⟩
  clear ho hs o3 o4 o5 e0 e1 e2 hok hW1 hbd hbr hok2
  go_enter Try.func12, Try.ntmps12
  go_wp2_with fail
  rw [← HW1.out]
  refine (qok.out _ bW1).mono ?_
  rintro e w1 ⟨rfl, hb1⟩
  have b1 := bW1.trans (hb1.mono bW1.size)
  obtain ⟨hd, hz⟩ := BX.out w1 hb1
  have z1 := hb1.size
  have y0 : w1.cell? ⟨w.heap.size, 0, none⟩ = some (.int .i64 x0) := box_cell hd rfl
  have y1 : w1.cell? ⟨w.heap.size, 1, none⟩ = some (.int .i64 x1) := box_cell hd rfl
  have y2 : w1.cell? ⟨w.heap.size, 2, none⟩ = some (.int .i64 x2) := box_cell hd rfl
  have y3 : w1.cell? ⟨w.heap.size, 3, none⟩ = some (.slice a3 n3 c3) := box_cell hd rfl
  have y4 : w1.cell? ⟨w.heap.size, 4, none⟩ = some (.slice a4 n4 c4) := box_cell hd rfl
  have y5 : w1.cell? ⟨w.heap.size, 5, none⟩ = some (.slice a5 n5 c5) := box_cell hd rfl
  have g1 : w1.frozen? ⟨w.heap.size, 1, none⟩ = false := box_frozen hd
  obtain ⟨U, hU⟩ : ∃ U, U = w1.setCell ⟨w.heap.size, 1, none⟩ (.int .i64 r) := ⟨_, rfl⟩
  have bU : Below w.heap.size w U := by rw [hU]; exact b1.setCell (Nat.le_refl _) _
  have zU : U.heap.size = w1.heap.size := by rw [hU]; simp
  have hzU : U.heap[w.heap.size + 1]? = some (.cells #[.int .i64 0, .int .i64 0, .int .i64 0, .slice none 0 0, .slice none 0 0, .slice none 0 0] 32 (0, 0)) := by rw [hU]; exact (box_other _ (by omega)).trans hz
  have HU : Hid (U = w1.setCell ⟨w.heap.size, 1, none⟩ (.int .i64 r) ∧ w.heap.size + 1 < U.heap.size) := ⟨hU, by omega⟩
  have zlt : w.heap.size < w1.heap.size := by omega
  clear hb1 hd hz hU
  go_wp2_with fail
  rw [← HU.out.1]
  refine (qrt.out _ bU).mono ?_
  rintro e w2 ⟨cs', F, he, p, nd, hb2⟩
  have b2 := bU.trans (hb2.mono bU.size)
  have hz2 := (hb2.block _ HU.out.2).trans hzU
  have z2 := hb2.size
  obtain ⟨p3, r3, s3, p4, r4, s4, p5, r5, s5, hcs, _⟩ := open_Disk p.reads
  have hcs' : cs' = [.int .i64 x0, .int .i64 r, .int .i64 x2, .slice p3 r3 s3, .slice p4 r4 s4, .slice p5 r5 s5] := hcs.trans (by rw [HE.out.1, HE.out.2.2]; rfl)
  clear hcs
  subst hcs'
  subst he
  have m0 : w2.cell? ⟨w.heap.size + 1, 0, none⟩ = some (.int .i64 0) := box_cell hz2 rfl
  have m1 : w2.cell? ⟨w.heap.size + 1, 1, none⟩ = some (.int .i64 0) := box_cell hz2 rfl
  have m2 : w2.cell? ⟨w.heap.size + 1, 2, none⟩ = some (.int .i64 0) := box_cell hz2 rfl
  have m3 : w2.cell? ⟨w.heap.size + 1, 3, none⟩ = some (.slice none 0 0) := box_cell hz2 rfl
  have m4 : w2.cell? ⟨w.heap.size + 1, 4, none⟩ = some (.slice none 0 0) := box_cell hz2 rfl
  have m5 : w2.cell? ⟨w.heap.size + 1, 5, none⟩ = some (.slice none 0 0) := box_cell hz2 rfl
  have u0 : w2.frozen? ⟨w.heap.size + 1, 0, none⟩ = false := box_frozen hz2
  have u1 : w2.frozen? ⟨w.heap.size + 1, 1, none⟩ = false := box_frozen hz2
  have u2 : w2.frozen? ⟨w.heap.size + 1, 2, none⟩ = false := box_frozen hz2
  have u3 : w2.frozen? ⟨w.heap.size + 1, 3, none⟩ = false := box_frozen hz2
  have u4 : w2.frozen? ⟨w.heap.size + 1, 4, none⟩ = false := box_frozen hz2
  have u5 : w2.frozen? ⟨w.heap.size + 1, 5, none⟩ = false := box_frozen hz2
  have hfin : ∃ X, X = ((((((w2.setCell ⟨w.heap.size + 1, 0, none⟩ (.int .i64 x0)).setCell ⟨w.heap.size + 1, 1, none⟩ (.int .i64 r)).setCell ⟨w.heap.size + 1, 2, none⟩ (.int .i64 x2)).setCell ⟨w.heap.size + 1, 3, none⟩ (.slice p3 r3 s3)).setCell ⟨w.heap.size + 1, 4, none⟩ (.slice p4 r4 s4)).setCell ⟨w.heap.size + 1, 5, none⟩ (.slice p5 r5 s5)) ∧ Below w.heap.size w X ∧ X.heap[w.heap.size + 1]? = some (.cells #[.int .i64 x0, .int .i64 r, .int .i64 x2, .slice p3 r3 s3, .slice p4 r4 s4, .slice p5 r5 s5] 32 (0, 0)) ∧ Own shDisk X w.heap.size [.int .i64 x0, .int .i64 r, .int .i64 x2, .slice p3 r3 s3, .slice p4 r4 s4, .slice p5 r5 s5] (fuseD d r) F := ⟨_, rfl, ((((((b2).setCell (by show w.heap.size ≤ w.heap.size + 1; omega) _).setCell (by show w.heap.size ≤ w.heap.size + 1; omega) _).setCell (by show w.heap.size ≤ w.heap.size + 1; omega) _).setCell (by show w.heap.size ≤ w.heap.size + 1; omega) _).setCell (by show w.heap.size ≤ w.heap.size + 1; omega) _).setCell (by show w.heap.size ≤ w.heap.size + 1; omega) _, by rw [(box_set (j := 5) (.slice p5 r5 s5) (box_set (j := 4) (.slice p4 r4 s4) (box_set (j := 3) (.slice p3 r3 s3) (box_set (j := 2) (.int .i64 x2) (box_set (j := 1) (.int .i64 r) (box_set (j := 0) (.int .i64 x0) hz2))))))]; rfl, (p.keep fun y hy => ((box_other (b := w.heap.size + 1) (j := 5) (.slice p5 r5 s5) (by have := (p.lt y hy).1; have := HU.out.2; omega)).trans ((box_other (b := w.heap.size + 1) (j := 4) (.slice p4 r4 s4) (by have := (p.lt y hy).1; have := HU.out.2; omega)).trans ((box_other (b := w.heap.size + 1) (j := 3) (.slice p3 r3 s3) (by have := (p.lt y hy).1; have := HU.out.2; omega)).trans ((box_other (b := w.heap.size + 1) (j := 2) (.int .i64 x2) (by have := (p.lt y hy).1; have := HU.out.2; omega)).trans ((box_other (b := w.heap.size + 1) (j := 1) (.int .i64 r) (by have := (p.lt y hy).1; have := HU.out.2; omega)).trans (box_other (b := w.heap.size + 1) (j := 0) (.int .i64 x0) (by have := (p.lt y hy).1; have := HU.out.2; omega)))))))).base bU.size⟩
  obtain ⟨WF, hWF, bF, xF, oF⟩ := hfin
  have f0 : WF.cell? ⟨w.heap.size + 1, 0, none⟩ = some (.int .i64 x0) := box_cell xF rfl
  have f1 : WF.cell? ⟨w.heap.size + 1, 1, none⟩ = some (.int .i64 r) := box_cell xF rfl
  have f2 : WF.cell? ⟨w.heap.size + 1, 2, none⟩ = some (.int .i64 x2) := box_cell xF rfl
  have f3 : WF.cell? ⟨w.heap.size + 1, 3, none⟩ = some (.slice p3 r3 s3) := box_cell xF rfl
  have f4 : WF.cell? ⟨w.heap.size + 1, 4, none⟩ = some (.slice p4 r4 s4) := box_cell xF rfl
  have f5 : WF.cell? ⟨w.heap.size + 1, 5, none⟩ = some (.slice p5 r5 s5) := box_cell xF rfl
  have HF : Hid (WF = ((((((w2.setCell ⟨w.heap.size + 1, 0, none⟩ (.int .i64 x0)).setCell ⟨w.heap.size + 1, 1, none⟩ (.int .i64 r)).setCell ⟨w.heap.size + 1, 2, none⟩ (.int .i64 x2)).setCell ⟨w.heap.size + 1, 3, none⟩ (.slice p3 r3 s3)).setCell ⟨w.heap.size + 1, 4, none⟩ (.slice p4 r4 s4)).setCell ⟨w.heap.size + 1, 5, none⟩ (.slice p5 r5 s5)) ∧ Own shDisk WF w.heap.size [.int .i64 x0, .int .i64 r, .int .i64 x2, .slice p3 r3 s3, .slice p4 r4 s4, .slice p5 r5 s5] (fuseD d r) F ∧ F.Nodup) := ⟨hWF, oF, nd⟩
  clear hWF xF oF p nd hb2 hz2 hzU zU y0 y1 y2 y3 y4 y5
  go_wp2
  rw [← HF.out.1]
  exact bodyPost_ret (v := .tuple #[.agg #[.int .i64 x0, .int .i64 r, .int .i64 x2, .slice p3 r3 s3, .slice p4 r4 s4, .slice p5 r5 s5], .bool true]) (by simp [results, Try.results12, go_sem, f0, f1, f2, f3, f4, f5]) rfl ⟨_, F, rfl, HF.out.2.1, HF.out.2.2, bF⟩

end Go.Proofs.Ytmhlligmehbehab
