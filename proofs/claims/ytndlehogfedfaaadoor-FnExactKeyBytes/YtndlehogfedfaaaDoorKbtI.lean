/-
  KeyBytes of the program: kby. By program (kybgen.py).
-/
import Derived.Test.YtndlehogfedfaaaDoorKbt
namespace Go.Proofs.YtndlehogfedfaaaDoor
open Go.RowKit
set_option linter.unusedVariables false
set_option linter.unusedSimpArgs false
set_option maxRecDepth 100000

set_option maxHeartbeats 4000000 in
theorem implKb_0 (k r : Int) (hF : kForm k r = 0) (w : World) :
    Calls Tryd.prog 13 #[.agg #[.int .i64 k, .int .i64 r]] w fun e w' => ∃ o F, e = .returned o ∧ OwC w' w.heap.size o [] F ∧ F.Nodup ∧ Below w.heap.size w w' := by
  have qf : Hid (∀ w', Calls Tryd.prog 21 #[.agg #[.int .i64 k, .int .i64 r]] w' fun e w'' => e = .returned (.int .i64 0) ∧ Below w'.heap.size w' w'') := fun w' => by have := implForm_any k r w'; rw [hF] at this; exact this
  clear hF
  go_enter Tryd.func13, Tryd.ntmps13
  go_wp2_with fail
  obtain ⟨W1, hW1⟩ : ∃ U, U = w.alloc (.cells #[.int .i64 k, .int .i64 r] 25) := ⟨_, rfl⟩
  have b1 : Below w.heap.size w W1 := by rw [hW1]; exact (Below.refl _ _).alloc (Nat.le_refl _) _
  have i1 : W1.heap[w.heap.size]? = some (.cells #[.int .i64 k, .int .i64 r] 25 (0, 0)) := by rw [hW1]; exact heap_alloc_new w _
  have z1 : W1.heap.size = w.heap.size + 1 := by rw [hW1]; simp
  rw [← hW1]
  clear hW1
  refine (qf.out _).mono ?_
  rintro e w4 ⟨rfl, h2⟩
  have hz2 := h2.size
  have zl : w.heap.size < w4.heap.size := by omega
  have i4 := (h2.block _ (by omega)).trans i1
  have y0 : w4.cell? ⟨w.heap.size, 0, none⟩ = some (.int .i64 k) := box_cell i4 rfl
  have y1 : w4.cell? ⟨w.heap.size, 1, none⟩ = some (.int .i64 r) := box_cell i4 rfl
  have HB : Hid (Below w.heap.size w w4 ∧ w.heap.size ≤ w4.heap.size) := ⟨b1.trans (h2.mono b1.size), by omega⟩
  clear h2 b1 hz2 z1 i1 i4
  go_wp2
  go_ret
  exact ⟨_, [], rfl, OwC.nil _ _, List.nodup_nil, HB.out.1⟩

set_option maxHeartbeats 4000000 in
theorem implKb_1 (k r : Int) (hF : kForm k r = 1) (w : World) :
    Calls Tryd.prog 13 #[.agg #[.int .i64 k, .int .i64 r]] w fun e w' => ∃ o F, e = .returned o ∧ OwC w' w.heap.size o (rb r) F ∧ F.Nodup ∧ Below w.heap.size w w' := by
  have qf : Hid (∀ w', Calls Tryd.prog 21 #[.agg #[.int .i64 k, .int .i64 r]] w' fun e w'' => e = .returned (.int .i64 1) ∧ Below w'.heap.size w' w'') := fun w' => by have := implForm_any k r w'; rw [hF] at this; exact this
  clear hF
  go_enter Tryd.func13, Tryd.ntmps13
  go_wp2_with fail
  obtain ⟨W1, hW1⟩ : ∃ U, U = w.alloc (.cells #[.int .i64 k, .int .i64 r] 25) := ⟨_, rfl⟩
  have b1 : Below w.heap.size w W1 := by rw [hW1]; exact (Below.refl _ _).alloc (Nat.le_refl _) _
  have i1 : W1.heap[w.heap.size]? = some (.cells #[.int .i64 k, .int .i64 r] 25 (0, 0)) := by rw [hW1]; exact heap_alloc_new w _
  have z1 : W1.heap.size = w.heap.size + 1 := by rw [hW1]; simp
  rw [← hW1]
  clear hW1
  refine (qf.out _).mono ?_
  rintro e w4 ⟨rfl, h2⟩
  have hz2 := h2.size
  have zl : w.heap.size < w4.heap.size := by omega
  have i4 := (h2.block _ (by omega)).trans i1
  have y0 : w4.cell? ⟨w.heap.size, 0, none⟩ = some (.int .i64 k) := box_cell i4 rfl
  have y1 : w4.cell? ⟨w.heap.size, 1, none⟩ = some (.int .i64 r) := box_cell i4 rfl
  have HB : Hid (Below w.heap.size w w4 ∧ w.heap.size ≤ w4.heap.size) := ⟨b1.trans (h2.mono b1.size), by omega⟩
  clear h2 b1 hz2 z1 i1 i4
  go_wp2_with fail
  refine (implRb_any r _).mono ?_
  rintro e w5 ⟨v, rfl, ho, hb⟩
  obtain ⟨F, ho', hnd⟩ := owC_own ho (fun x hx => by have := rb_byte r x hx; omega)
  have HO : Hid (OwC w5 w.heap.size v (rb r) F ∧ F.Nodup ∧ Below w.heap.size w w5) := ⟨ho'.base HB.out.2, hnd, HB.out.1.trans (hb.mono HB.out.2)⟩
  clear ho ho' hnd hb
  go_wp2
  go_ret
  exact ⟨v, F, rfl, HO.out⟩

set_option maxHeartbeats 4000000 in
theorem implKb_2_95 (k : Int) (hF : kForm k 95 = 2) (w : World) :
    Calls Tryd.prog 13 #[.agg #[.int .i64 k, .int .i64 95]] w fun e w' => ∃ o F, e = .returned o ∧ OwC w' w.heap.size o [31] F ∧ F.Nodup ∧ Below w.heap.size w w' := by
  have qf : Hid (∀ w', Calls Tryd.prog 21 #[.agg #[.int .i64 k, .int .i64 95]] w' fun e w'' => e = .returned (.int .i64 2) ∧ Below w'.heap.size w' w'') := fun w' => by have := implForm_any k 95 w'; rw [hF] at this; exact this
  clear hF
  go_enter Tryd.func13, Tryd.ntmps13
  go_wp2_with fail
  obtain ⟨W1, hW1⟩ : ∃ U, U = w.alloc (.cells #[.int .i64 k, .int .i64 95] 25) := ⟨_, rfl⟩
  have b1 : Below w.heap.size w W1 := by rw [hW1]; exact (Below.refl _ _).alloc (Nat.le_refl _) _
  have i1 : W1.heap[w.heap.size]? = some (.cells #[.int .i64 k, .int .i64 95] 25 (0, 0)) := by rw [hW1]; exact heap_alloc_new w _
  have z1 : W1.heap.size = w.heap.size + 1 := by rw [hW1]; simp
  rw [← hW1]
  clear hW1
  refine (qf.out _).mono ?_
  rintro e w4 ⟨rfl, h2⟩
  have hz2 := h2.size
  have zl : w.heap.size < w4.heap.size := by omega
  have i4 := (h2.block _ (by omega)).trans i1
  have y0 : w4.cell? ⟨w.heap.size, 0, none⟩ = some (.int .i64 k) := box_cell i4 rfl
  have y1 : w4.cell? ⟨w.heap.size, 1, none⟩ = some (.int .i64 95) := box_cell i4 rfl
  have HB : Hid (Below w.heap.size w w4 ∧ w.heap.size ≤ w4.heap.size) := ⟨b1.trans (h2.mono b1.size), by omega⟩
  clear h2 b1 hz2 z1 i1 i4
  go_wp2
  go_ret
  have ho : OwC (w4.alloc (.cells #[.int .u8 31] 5)) w.heap.size (.slice (some ⟨w4.heap.size, 0, none⟩) 1 1) [31] [w4.heap.size] := owC_row (d := [31]) HB.out.2 (heap_alloc_new w4 _) (Nat.le_refl _) (by decide) (fun i hi => by (have e0 : i = 0 := by (simp at hi; omega)); subst e0; rfl) (by intro x hx; simp at hx; omega)
  exact ⟨_, _, rfl, ho, by simp, HB.out.1.alloc HB.out.2 _⟩

set_option maxHeartbeats 4000000 in
theorem implKb_2_97 (k : Int) (hF : kForm k 97 = 2) (w : World) :
    Calls Tryd.prog 13 #[.agg #[.int .i64 k, .int .i64 97]] w fun e w' => ∃ o F, e = .returned o ∧ OwC w' w.heap.size o [1] F ∧ F.Nodup ∧ Below w.heap.size w w' := by
  have qf : Hid (∀ w', Calls Tryd.prog 21 #[.agg #[.int .i64 k, .int .i64 97]] w' fun e w'' => e = .returned (.int .i64 2) ∧ Below w'.heap.size w' w'') := fun w' => by have := implForm_any k 97 w'; rw [hF] at this; exact this
  clear hF
  go_enter Tryd.func13, Tryd.ntmps13
  go_wp2_with fail
  obtain ⟨W1, hW1⟩ : ∃ U, U = w.alloc (.cells #[.int .i64 k, .int .i64 97] 25) := ⟨_, rfl⟩
  have b1 : Below w.heap.size w W1 := by rw [hW1]; exact (Below.refl _ _).alloc (Nat.le_refl _) _
  have i1 : W1.heap[w.heap.size]? = some (.cells #[.int .i64 k, .int .i64 97] 25 (0, 0)) := by rw [hW1]; exact heap_alloc_new w _
  have z1 : W1.heap.size = w.heap.size + 1 := by rw [hW1]; simp
  rw [← hW1]
  clear hW1
  refine (qf.out _).mono ?_
  rintro e w4 ⟨rfl, h2⟩
  have hz2 := h2.size
  have zl : w.heap.size < w4.heap.size := by omega
  have i4 := (h2.block _ (by omega)).trans i1
  have y0 : w4.cell? ⟨w.heap.size, 0, none⟩ = some (.int .i64 k) := box_cell i4 rfl
  have y1 : w4.cell? ⟨w.heap.size, 1, none⟩ = some (.int .i64 97) := box_cell i4 rfl
  have HB : Hid (Below w.heap.size w w4 ∧ w.heap.size ≤ w4.heap.size) := ⟨b1.trans (h2.mono b1.size), by omega⟩
  clear h2 b1 hz2 z1 i1 i4
  go_wp2
  go_ret
  have ho : OwC (w4.alloc (.cells #[.int .u8 1] 5)) w.heap.size (.slice (some ⟨w4.heap.size, 0, none⟩) 1 1) [1] [w4.heap.size] := owC_row (d := [1]) HB.out.2 (heap_alloc_new w4 _) (Nat.le_refl _) (by decide) (fun i hi => by (have e0 : i = 0 := by (simp at hi; omega)); subst e0; rfl) (by intro x hx; simp at hx; omega)
  exact ⟨_, _, rfl, ho, by simp, HB.out.1.alloc HB.out.2 _⟩

set_option maxHeartbeats 4000000 in
theorem implKb_2_98 (k : Int) (hF : kForm k 98 = 2) (w : World) :
    Calls Tryd.prog 13 #[.agg #[.int .i64 k, .int .i64 98]] w fun e w' => ∃ o F, e = .returned o ∧ OwC w' w.heap.size o [2] F ∧ F.Nodup ∧ Below w.heap.size w w' := by
  have qf : Hid (∀ w', Calls Tryd.prog 21 #[.agg #[.int .i64 k, .int .i64 98]] w' fun e w'' => e = .returned (.int .i64 2) ∧ Below w'.heap.size w' w'') := fun w' => by have := implForm_any k 98 w'; rw [hF] at this; exact this
  clear hF
  go_enter Tryd.func13, Tryd.ntmps13
  go_wp2_with fail
  obtain ⟨W1, hW1⟩ : ∃ U, U = w.alloc (.cells #[.int .i64 k, .int .i64 98] 25) := ⟨_, rfl⟩
  have b1 : Below w.heap.size w W1 := by rw [hW1]; exact (Below.refl _ _).alloc (Nat.le_refl _) _
  have i1 : W1.heap[w.heap.size]? = some (.cells #[.int .i64 k, .int .i64 98] 25 (0, 0)) := by rw [hW1]; exact heap_alloc_new w _
  have z1 : W1.heap.size = w.heap.size + 1 := by rw [hW1]; simp
  rw [← hW1]
  clear hW1
  refine (qf.out _).mono ?_
  rintro e w4 ⟨rfl, h2⟩
  have hz2 := h2.size
  have zl : w.heap.size < w4.heap.size := by omega
  have i4 := (h2.block _ (by omega)).trans i1
  have y0 : w4.cell? ⟨w.heap.size, 0, none⟩ = some (.int .i64 k) := box_cell i4 rfl
  have y1 : w4.cell? ⟨w.heap.size, 1, none⟩ = some (.int .i64 98) := box_cell i4 rfl
  have HB : Hid (Below w.heap.size w w4 ∧ w.heap.size ≤ w4.heap.size) := ⟨b1.trans (h2.mono b1.size), by omega⟩
  clear h2 b1 hz2 z1 i1 i4
  go_wp2
  go_ret
  have ho : OwC (w4.alloc (.cells #[.int .u8 2] 5)) w.heap.size (.slice (some ⟨w4.heap.size, 0, none⟩) 1 1) [2] [w4.heap.size] := owC_row (d := [2]) HB.out.2 (heap_alloc_new w4 _) (Nat.le_refl _) (by decide) (fun i hi => by (have e0 : i = 0 := by (simp at hi; omega)); subst e0; rfl) (by intro x hx; simp at hx; omega)
  exact ⟨_, _, rfl, ho, by simp, HB.out.1.alloc HB.out.2 _⟩

set_option maxHeartbeats 4000000 in
theorem implKb_2_99 (k : Int) (hF : kForm k 99 = 2) (w : World) :
    Calls Tryd.prog 13 #[.agg #[.int .i64 k, .int .i64 99]] w fun e w' => ∃ o F, e = .returned o ∧ OwC w' w.heap.size o [3] F ∧ F.Nodup ∧ Below w.heap.size w w' := by
  have qf : Hid (∀ w', Calls Tryd.prog 21 #[.agg #[.int .i64 k, .int .i64 99]] w' fun e w'' => e = .returned (.int .i64 2) ∧ Below w'.heap.size w' w'') := fun w' => by have := implForm_any k 99 w'; rw [hF] at this; exact this
  clear hF
  go_enter Tryd.func13, Tryd.ntmps13
  go_wp2_with fail
  obtain ⟨W1, hW1⟩ : ∃ U, U = w.alloc (.cells #[.int .i64 k, .int .i64 99] 25) := ⟨_, rfl⟩
  have b1 : Below w.heap.size w W1 := by rw [hW1]; exact (Below.refl _ _).alloc (Nat.le_refl _) _
  have i1 : W1.heap[w.heap.size]? = some (.cells #[.int .i64 k, .int .i64 99] 25 (0, 0)) := by rw [hW1]; exact heap_alloc_new w _
  have z1 : W1.heap.size = w.heap.size + 1 := by rw [hW1]; simp
  rw [← hW1]
  clear hW1
  refine (qf.out _).mono ?_
  rintro e w4 ⟨rfl, h2⟩
  have hz2 := h2.size
  have zl : w.heap.size < w4.heap.size := by omega
  have i4 := (h2.block _ (by omega)).trans i1
  have y0 : w4.cell? ⟨w.heap.size, 0, none⟩ = some (.int .i64 k) := box_cell i4 rfl
  have y1 : w4.cell? ⟨w.heap.size, 1, none⟩ = some (.int .i64 99) := box_cell i4 rfl
  have HB : Hid (Below w.heap.size w w4 ∧ w.heap.size ≤ w4.heap.size) := ⟨b1.trans (h2.mono b1.size), by omega⟩
  clear h2 b1 hz2 z1 i1 i4
  go_wp2
  go_ret
  have ho : OwC (w4.alloc (.cells #[.int .u8 3] 5)) w.heap.size (.slice (some ⟨w4.heap.size, 0, none⟩) 1 1) [3] [w4.heap.size] := owC_row (d := [3]) HB.out.2 (heap_alloc_new w4 _) (Nat.le_refl _) (by decide) (fun i hi => by (have e0 : i = 0 := by (simp at hi; omega)); subst e0; rfl) (by intro x hx; simp at hx; omega)
  exact ⟨_, _, rfl, ho, by simp, HB.out.1.alloc HB.out.2 _⟩

set_option maxHeartbeats 4000000 in
theorem implKb_2_100 (k : Int) (hF : kForm k 100 = 2) (w : World) :
    Calls Tryd.prog 13 #[.agg #[.int .i64 k, .int .i64 100]] w fun e w' => ∃ o F, e = .returned o ∧ OwC w' w.heap.size o [4] F ∧ F.Nodup ∧ Below w.heap.size w w' := by
  have qf : Hid (∀ w', Calls Tryd.prog 21 #[.agg #[.int .i64 k, .int .i64 100]] w' fun e w'' => e = .returned (.int .i64 2) ∧ Below w'.heap.size w' w'') := fun w' => by have := implForm_any k 100 w'; rw [hF] at this; exact this
  clear hF
  go_enter Tryd.func13, Tryd.ntmps13
  go_wp2_with fail
  obtain ⟨W1, hW1⟩ : ∃ U, U = w.alloc (.cells #[.int .i64 k, .int .i64 100] 25) := ⟨_, rfl⟩
  have b1 : Below w.heap.size w W1 := by rw [hW1]; exact (Below.refl _ _).alloc (Nat.le_refl _) _
  have i1 : W1.heap[w.heap.size]? = some (.cells #[.int .i64 k, .int .i64 100] 25 (0, 0)) := by rw [hW1]; exact heap_alloc_new w _
  have z1 : W1.heap.size = w.heap.size + 1 := by rw [hW1]; simp
  rw [← hW1]
  clear hW1
  refine (qf.out _).mono ?_
  rintro e w4 ⟨rfl, h2⟩
  have hz2 := h2.size
  have zl : w.heap.size < w4.heap.size := by omega
  have i4 := (h2.block _ (by omega)).trans i1
  have y0 : w4.cell? ⟨w.heap.size, 0, none⟩ = some (.int .i64 k) := box_cell i4 rfl
  have y1 : w4.cell? ⟨w.heap.size, 1, none⟩ = some (.int .i64 100) := box_cell i4 rfl
  have HB : Hid (Below w.heap.size w w4 ∧ w.heap.size ≤ w4.heap.size) := ⟨b1.trans (h2.mono b1.size), by omega⟩
  clear h2 b1 hz2 z1 i1 i4
  go_wp2
  go_ret
  have ho : OwC (w4.alloc (.cells #[.int .u8 4] 5)) w.heap.size (.slice (some ⟨w4.heap.size, 0, none⟩) 1 1) [4] [w4.heap.size] := owC_row (d := [4]) HB.out.2 (heap_alloc_new w4 _) (Nat.le_refl _) (by decide) (fun i hi => by (have e0 : i = 0 := by (simp at hi; omega)); subst e0; rfl) (by intro x hx; simp at hx; omega)
  exact ⟨_, _, rfl, ho, by simp, HB.out.1.alloc HB.out.2 _⟩

set_option maxHeartbeats 4000000 in
theorem implKb_2_101 (k : Int) (hF : kForm k 101 = 2) (w : World) :
    Calls Tryd.prog 13 #[.agg #[.int .i64 k, .int .i64 101]] w fun e w' => ∃ o F, e = .returned o ∧ OwC w' w.heap.size o [5] F ∧ F.Nodup ∧ Below w.heap.size w w' := by
  have qf : Hid (∀ w', Calls Tryd.prog 21 #[.agg #[.int .i64 k, .int .i64 101]] w' fun e w'' => e = .returned (.int .i64 2) ∧ Below w'.heap.size w' w'') := fun w' => by have := implForm_any k 101 w'; rw [hF] at this; exact this
  clear hF
  go_enter Tryd.func13, Tryd.ntmps13
  go_wp2_with fail
  obtain ⟨W1, hW1⟩ : ∃ U, U = w.alloc (.cells #[.int .i64 k, .int .i64 101] 25) := ⟨_, rfl⟩
  have b1 : Below w.heap.size w W1 := by rw [hW1]; exact (Below.refl _ _).alloc (Nat.le_refl _) _
  have i1 : W1.heap[w.heap.size]? = some (.cells #[.int .i64 k, .int .i64 101] 25 (0, 0)) := by rw [hW1]; exact heap_alloc_new w _
  have z1 : W1.heap.size = w.heap.size + 1 := by rw [hW1]; simp
  rw [← hW1]
  clear hW1
  refine (qf.out _).mono ?_
  rintro e w4 ⟨rfl, h2⟩
  have hz2 := h2.size
  have zl : w.heap.size < w4.heap.size := by omega
  have i4 := (h2.block _ (by omega)).trans i1
  have y0 : w4.cell? ⟨w.heap.size, 0, none⟩ = some (.int .i64 k) := box_cell i4 rfl
  have y1 : w4.cell? ⟨w.heap.size, 1, none⟩ = some (.int .i64 101) := box_cell i4 rfl
  have HB : Hid (Below w.heap.size w w4 ∧ w.heap.size ≤ w4.heap.size) := ⟨b1.trans (h2.mono b1.size), by omega⟩
  clear h2 b1 hz2 z1 i1 i4
  go_wp2
  go_ret
  have ho : OwC (w4.alloc (.cells #[.int .u8 5] 5)) w.heap.size (.slice (some ⟨w4.heap.size, 0, none⟩) 1 1) [5] [w4.heap.size] := owC_row (d := [5]) HB.out.2 (heap_alloc_new w4 _) (Nat.le_refl _) (by decide) (fun i hi => by (have e0 : i = 0 := by (simp at hi; omega)); subst e0; rfl) (by intro x hx; simp at hx; omega)
  exact ⟨_, _, rfl, ho, by simp, HB.out.1.alloc HB.out.2 _⟩

set_option maxHeartbeats 4000000 in
theorem implKb_2_102 (k : Int) (hF : kForm k 102 = 2) (w : World) :
    Calls Tryd.prog 13 #[.agg #[.int .i64 k, .int .i64 102]] w fun e w' => ∃ o F, e = .returned o ∧ OwC w' w.heap.size o [6] F ∧ F.Nodup ∧ Below w.heap.size w w' := by
  have qf : Hid (∀ w', Calls Tryd.prog 21 #[.agg #[.int .i64 k, .int .i64 102]] w' fun e w'' => e = .returned (.int .i64 2) ∧ Below w'.heap.size w' w'') := fun w' => by have := implForm_any k 102 w'; rw [hF] at this; exact this
  clear hF
  go_enter Tryd.func13, Tryd.ntmps13
  go_wp2_with fail
  obtain ⟨W1, hW1⟩ : ∃ U, U = w.alloc (.cells #[.int .i64 k, .int .i64 102] 25) := ⟨_, rfl⟩
  have b1 : Below w.heap.size w W1 := by rw [hW1]; exact (Below.refl _ _).alloc (Nat.le_refl _) _
  have i1 : W1.heap[w.heap.size]? = some (.cells #[.int .i64 k, .int .i64 102] 25 (0, 0)) := by rw [hW1]; exact heap_alloc_new w _
  have z1 : W1.heap.size = w.heap.size + 1 := by rw [hW1]; simp
  rw [← hW1]
  clear hW1
  refine (qf.out _).mono ?_
  rintro e w4 ⟨rfl, h2⟩
  have hz2 := h2.size
  have zl : w.heap.size < w4.heap.size := by omega
  have i4 := (h2.block _ (by omega)).trans i1
  have y0 : w4.cell? ⟨w.heap.size, 0, none⟩ = some (.int .i64 k) := box_cell i4 rfl
  have y1 : w4.cell? ⟨w.heap.size, 1, none⟩ = some (.int .i64 102) := box_cell i4 rfl
  have HB : Hid (Below w.heap.size w w4 ∧ w.heap.size ≤ w4.heap.size) := ⟨b1.trans (h2.mono b1.size), by omega⟩
  clear h2 b1 hz2 z1 i1 i4
  go_wp2
  go_ret
  have ho : OwC (w4.alloc (.cells #[.int .u8 6] 5)) w.heap.size (.slice (some ⟨w4.heap.size, 0, none⟩) 1 1) [6] [w4.heap.size] := owC_row (d := [6]) HB.out.2 (heap_alloc_new w4 _) (Nat.le_refl _) (by decide) (fun i hi => by (have e0 : i = 0 := by (simp at hi; omega)); subst e0; rfl) (by intro x hx; simp at hx; omega)
  exact ⟨_, _, rfl, ho, by simp, HB.out.1.alloc HB.out.2 _⟩

set_option maxHeartbeats 4000000 in
theorem implKb_2_103 (k : Int) (hF : kForm k 103 = 2) (w : World) :
    Calls Tryd.prog 13 #[.agg #[.int .i64 k, .int .i64 103]] w fun e w' => ∃ o F, e = .returned o ∧ OwC w' w.heap.size o [7] F ∧ F.Nodup ∧ Below w.heap.size w w' := by
  have qf : Hid (∀ w', Calls Tryd.prog 21 #[.agg #[.int .i64 k, .int .i64 103]] w' fun e w'' => e = .returned (.int .i64 2) ∧ Below w'.heap.size w' w'') := fun w' => by have := implForm_any k 103 w'; rw [hF] at this; exact this
  clear hF
  go_enter Tryd.func13, Tryd.ntmps13
  go_wp2_with fail
  obtain ⟨W1, hW1⟩ : ∃ U, U = w.alloc (.cells #[.int .i64 k, .int .i64 103] 25) := ⟨_, rfl⟩
  have b1 : Below w.heap.size w W1 := by rw [hW1]; exact (Below.refl _ _).alloc (Nat.le_refl _) _
  have i1 : W1.heap[w.heap.size]? = some (.cells #[.int .i64 k, .int .i64 103] 25 (0, 0)) := by rw [hW1]; exact heap_alloc_new w _
  have z1 : W1.heap.size = w.heap.size + 1 := by rw [hW1]; simp
  rw [← hW1]
  clear hW1
  refine (qf.out _).mono ?_
  rintro e w4 ⟨rfl, h2⟩
  have hz2 := h2.size
  have zl : w.heap.size < w4.heap.size := by omega
  have i4 := (h2.block _ (by omega)).trans i1
  have y0 : w4.cell? ⟨w.heap.size, 0, none⟩ = some (.int .i64 k) := box_cell i4 rfl
  have y1 : w4.cell? ⟨w.heap.size, 1, none⟩ = some (.int .i64 103) := box_cell i4 rfl
  have HB : Hid (Below w.heap.size w w4 ∧ w.heap.size ≤ w4.heap.size) := ⟨b1.trans (h2.mono b1.size), by omega⟩
  clear h2 b1 hz2 z1 i1 i4
  go_wp2
  go_ret
  have ho : OwC (w4.alloc (.cells #[.int .u8 7] 5)) w.heap.size (.slice (some ⟨w4.heap.size, 0, none⟩) 1 1) [7] [w4.heap.size] := owC_row (d := [7]) HB.out.2 (heap_alloc_new w4 _) (Nat.le_refl _) (by decide) (fun i hi => by (have e0 : i = 0 := by (simp at hi; omega)); subst e0; rfl) (by intro x hx; simp at hx; omega)
  exact ⟨_, _, rfl, ho, by simp, HB.out.1.alloc HB.out.2 _⟩

set_option maxHeartbeats 4000000 in
theorem implKb_2_107 (k : Int) (hF : kForm k 107 = 2) (w : World) :
    Calls Tryd.prog 13 #[.agg #[.int .i64 k, .int .i64 107]] w fun e w' => ∃ o F, e = .returned o ∧ OwC w' w.heap.size o [11] F ∧ F.Nodup ∧ Below w.heap.size w w' := by
  have qf : Hid (∀ w', Calls Tryd.prog 21 #[.agg #[.int .i64 k, .int .i64 107]] w' fun e w'' => e = .returned (.int .i64 2) ∧ Below w'.heap.size w' w'') := fun w' => by have := implForm_any k 107 w'; rw [hF] at this; exact this
  clear hF
  go_enter Tryd.func13, Tryd.ntmps13
  go_wp2_with fail
  obtain ⟨W1, hW1⟩ : ∃ U, U = w.alloc (.cells #[.int .i64 k, .int .i64 107] 25) := ⟨_, rfl⟩
  have b1 : Below w.heap.size w W1 := by rw [hW1]; exact (Below.refl _ _).alloc (Nat.le_refl _) _
  have i1 : W1.heap[w.heap.size]? = some (.cells #[.int .i64 k, .int .i64 107] 25 (0, 0)) := by rw [hW1]; exact heap_alloc_new w _
  have z1 : W1.heap.size = w.heap.size + 1 := by rw [hW1]; simp
  rw [← hW1]
  clear hW1
  refine (qf.out _).mono ?_
  rintro e w4 ⟨rfl, h2⟩
  have hz2 := h2.size
  have zl : w.heap.size < w4.heap.size := by omega
  have i4 := (h2.block _ (by omega)).trans i1
  have y0 : w4.cell? ⟨w.heap.size, 0, none⟩ = some (.int .i64 k) := box_cell i4 rfl
  have y1 : w4.cell? ⟨w.heap.size, 1, none⟩ = some (.int .i64 107) := box_cell i4 rfl
  have HB : Hid (Below w.heap.size w w4 ∧ w.heap.size ≤ w4.heap.size) := ⟨b1.trans (h2.mono b1.size), by omega⟩
  clear h2 b1 hz2 z1 i1 i4
  go_wp2
  go_ret
  have ho : OwC (w4.alloc (.cells #[.int .u8 11] 5)) w.heap.size (.slice (some ⟨w4.heap.size, 0, none⟩) 1 1) [11] [w4.heap.size] := owC_row (d := [11]) HB.out.2 (heap_alloc_new w4 _) (Nat.le_refl _) (by decide) (fun i hi => by (have e0 : i = 0 := by (simp at hi; omega)); subst e0; rfl) (by intro x hx; simp at hx; omega)
  exact ⟨_, _, rfl, ho, by simp, HB.out.1.alloc HB.out.2 _⟩

set_option maxHeartbeats 4000000 in
theorem implKb_2_108 (k : Int) (hF : kForm k 108 = 2) (w : World) :
    Calls Tryd.prog 13 #[.agg #[.int .i64 k, .int .i64 108]] w fun e w' => ∃ o F, e = .returned o ∧ OwC w' w.heap.size o [12] F ∧ F.Nodup ∧ Below w.heap.size w w' := by
  have qf : Hid (∀ w', Calls Tryd.prog 21 #[.agg #[.int .i64 k, .int .i64 108]] w' fun e w'' => e = .returned (.int .i64 2) ∧ Below w'.heap.size w' w'') := fun w' => by have := implForm_any k 108 w'; rw [hF] at this; exact this
  clear hF
  go_enter Tryd.func13, Tryd.ntmps13
  go_wp2_with fail
  obtain ⟨W1, hW1⟩ : ∃ U, U = w.alloc (.cells #[.int .i64 k, .int .i64 108] 25) := ⟨_, rfl⟩
  have b1 : Below w.heap.size w W1 := by rw [hW1]; exact (Below.refl _ _).alloc (Nat.le_refl _) _
  have i1 : W1.heap[w.heap.size]? = some (.cells #[.int .i64 k, .int .i64 108] 25 (0, 0)) := by rw [hW1]; exact heap_alloc_new w _
  have z1 : W1.heap.size = w.heap.size + 1 := by rw [hW1]; simp
  rw [← hW1]
  clear hW1
  refine (qf.out _).mono ?_
  rintro e w4 ⟨rfl, h2⟩
  have hz2 := h2.size
  have zl : w.heap.size < w4.heap.size := by omega
  have i4 := (h2.block _ (by omega)).trans i1
  have y0 : w4.cell? ⟨w.heap.size, 0, none⟩ = some (.int .i64 k) := box_cell i4 rfl
  have y1 : w4.cell? ⟨w.heap.size, 1, none⟩ = some (.int .i64 108) := box_cell i4 rfl
  have HB : Hid (Below w.heap.size w w4 ∧ w.heap.size ≤ w4.heap.size) := ⟨b1.trans (h2.mono b1.size), by omega⟩
  clear h2 b1 hz2 z1 i1 i4
  go_wp2
  go_ret
  have ho : OwC (w4.alloc (.cells #[.int .u8 12] 5)) w.heap.size (.slice (some ⟨w4.heap.size, 0, none⟩) 1 1) [12] [w4.heap.size] := owC_row (d := [12]) HB.out.2 (heap_alloc_new w4 _) (Nat.le_refl _) (by decide) (fun i hi => by (have e0 : i = 0 := by (simp at hi; omega)); subst e0; rfl) (by intro x hx; simp at hx; omega)
  exact ⟨_, _, rfl, ho, by simp, HB.out.1.alloc HB.out.2 _⟩

set_option maxHeartbeats 4000000 in
theorem implKb_2_110 (k : Int) (hF : kForm k 110 = 2) (w : World) :
    Calls Tryd.prog 13 #[.agg #[.int .i64 k, .int .i64 110]] w fun e w' => ∃ o F, e = .returned o ∧ OwC w' w.heap.size o [14] F ∧ F.Nodup ∧ Below w.heap.size w w' := by
  have qf : Hid (∀ w', Calls Tryd.prog 21 #[.agg #[.int .i64 k, .int .i64 110]] w' fun e w'' => e = .returned (.int .i64 2) ∧ Below w'.heap.size w' w'') := fun w' => by have := implForm_any k 110 w'; rw [hF] at this; exact this
  clear hF
  go_enter Tryd.func13, Tryd.ntmps13
  go_wp2_with fail
  obtain ⟨W1, hW1⟩ : ∃ U, U = w.alloc (.cells #[.int .i64 k, .int .i64 110] 25) := ⟨_, rfl⟩
  have b1 : Below w.heap.size w W1 := by rw [hW1]; exact (Below.refl _ _).alloc (Nat.le_refl _) _
  have i1 : W1.heap[w.heap.size]? = some (.cells #[.int .i64 k, .int .i64 110] 25 (0, 0)) := by rw [hW1]; exact heap_alloc_new w _
  have z1 : W1.heap.size = w.heap.size + 1 := by rw [hW1]; simp
  rw [← hW1]
  clear hW1
  refine (qf.out _).mono ?_
  rintro e w4 ⟨rfl, h2⟩
  have hz2 := h2.size
  have zl : w.heap.size < w4.heap.size := by omega
  have i4 := (h2.block _ (by omega)).trans i1
  have y0 : w4.cell? ⟨w.heap.size, 0, none⟩ = some (.int .i64 k) := box_cell i4 rfl
  have y1 : w4.cell? ⟨w.heap.size, 1, none⟩ = some (.int .i64 110) := box_cell i4 rfl
  have HB : Hid (Below w.heap.size w w4 ∧ w.heap.size ≤ w4.heap.size) := ⟨b1.trans (h2.mono b1.size), by omega⟩
  clear h2 b1 hz2 z1 i1 i4
  go_wp2
  go_ret
  have ho : OwC (w4.alloc (.cells #[.int .u8 14] 5)) w.heap.size (.slice (some ⟨w4.heap.size, 0, none⟩) 1 1) [14] [w4.heap.size] := owC_row (d := [14]) HB.out.2 (heap_alloc_new w4 _) (Nat.le_refl _) (by decide) (fun i hi => by (have e0 : i = 0 := by (simp at hi; omega)); subst e0; rfl) (by intro x hx; simp at hx; omega)
  exact ⟨_, _, rfl, ho, by simp, HB.out.1.alloc HB.out.2 _⟩

set_option maxHeartbeats 4000000 in
theorem implKb_2_111 (k : Int) (hF : kForm k 111 = 2) (w : World) :
    Calls Tryd.prog 13 #[.agg #[.int .i64 k, .int .i64 111]] w fun e w' => ∃ o F, e = .returned o ∧ OwC w' w.heap.size o [15] F ∧ F.Nodup ∧ Below w.heap.size w w' := by
  have qf : Hid (∀ w', Calls Tryd.prog 21 #[.agg #[.int .i64 k, .int .i64 111]] w' fun e w'' => e = .returned (.int .i64 2) ∧ Below w'.heap.size w' w'') := fun w' => by have := implForm_any k 111 w'; rw [hF] at this; exact this
  clear hF
  go_enter Tryd.func13, Tryd.ntmps13
  go_wp2_with fail
  obtain ⟨W1, hW1⟩ : ∃ U, U = w.alloc (.cells #[.int .i64 k, .int .i64 111] 25) := ⟨_, rfl⟩
  have b1 : Below w.heap.size w W1 := by rw [hW1]; exact (Below.refl _ _).alloc (Nat.le_refl _) _
  have i1 : W1.heap[w.heap.size]? = some (.cells #[.int .i64 k, .int .i64 111] 25 (0, 0)) := by rw [hW1]; exact heap_alloc_new w _
  have z1 : W1.heap.size = w.heap.size + 1 := by rw [hW1]; simp
  rw [← hW1]
  clear hW1
  refine (qf.out _).mono ?_
  rintro e w4 ⟨rfl, h2⟩
  have hz2 := h2.size
  have zl : w.heap.size < w4.heap.size := by omega
  have i4 := (h2.block _ (by omega)).trans i1
  have y0 : w4.cell? ⟨w.heap.size, 0, none⟩ = some (.int .i64 k) := box_cell i4 rfl
  have y1 : w4.cell? ⟨w.heap.size, 1, none⟩ = some (.int .i64 111) := box_cell i4 rfl
  have HB : Hid (Below w.heap.size w w4 ∧ w.heap.size ≤ w4.heap.size) := ⟨b1.trans (h2.mono b1.size), by omega⟩
  clear h2 b1 hz2 z1 i1 i4
  go_wp2
  go_ret
  have ho : OwC (w4.alloc (.cells #[.int .u8 15] 5)) w.heap.size (.slice (some ⟨w4.heap.size, 0, none⟩) 1 1) [15] [w4.heap.size] := owC_row (d := [15]) HB.out.2 (heap_alloc_new w4 _) (Nat.le_refl _) (by decide) (fun i hi => by (have e0 : i = 0 := by (simp at hi; omega)); subst e0; rfl) (by intro x hx; simp at hx; omega)
  exact ⟨_, _, rfl, ho, by simp, HB.out.1.alloc HB.out.2 _⟩

set_option maxHeartbeats 4000000 in
theorem implKb_2_112 (k : Int) (hF : kForm k 112 = 2) (w : World) :
    Calls Tryd.prog 13 #[.agg #[.int .i64 k, .int .i64 112]] w fun e w' => ∃ o F, e = .returned o ∧ OwC w' w.heap.size o [16] F ∧ F.Nodup ∧ Below w.heap.size w w' := by
  have qf : Hid (∀ w', Calls Tryd.prog 21 #[.agg #[.int .i64 k, .int .i64 112]] w' fun e w'' => e = .returned (.int .i64 2) ∧ Below w'.heap.size w' w'') := fun w' => by have := implForm_any k 112 w'; rw [hF] at this; exact this
  clear hF
  go_enter Tryd.func13, Tryd.ntmps13
  go_wp2_with fail
  obtain ⟨W1, hW1⟩ : ∃ U, U = w.alloc (.cells #[.int .i64 k, .int .i64 112] 25) := ⟨_, rfl⟩
  have b1 : Below w.heap.size w W1 := by rw [hW1]; exact (Below.refl _ _).alloc (Nat.le_refl _) _
  have i1 : W1.heap[w.heap.size]? = some (.cells #[.int .i64 k, .int .i64 112] 25 (0, 0)) := by rw [hW1]; exact heap_alloc_new w _
  have z1 : W1.heap.size = w.heap.size + 1 := by rw [hW1]; simp
  rw [← hW1]
  clear hW1
  refine (qf.out _).mono ?_
  rintro e w4 ⟨rfl, h2⟩
  have hz2 := h2.size
  have zl : w.heap.size < w4.heap.size := by omega
  have i4 := (h2.block _ (by omega)).trans i1
  have y0 : w4.cell? ⟨w.heap.size, 0, none⟩ = some (.int .i64 k) := box_cell i4 rfl
  have y1 : w4.cell? ⟨w.heap.size, 1, none⟩ = some (.int .i64 112) := box_cell i4 rfl
  have HB : Hid (Below w.heap.size w w4 ∧ w.heap.size ≤ w4.heap.size) := ⟨b1.trans (h2.mono b1.size), by omega⟩
  clear h2 b1 hz2 z1 i1 i4
  go_wp2
  go_ret
  have ho : OwC (w4.alloc (.cells #[.int .u8 16] 5)) w.heap.size (.slice (some ⟨w4.heap.size, 0, none⟩) 1 1) [16] [w4.heap.size] := owC_row (d := [16]) HB.out.2 (heap_alloc_new w4 _) (Nat.le_refl _) (by decide) (fun i hi => by (have e0 : i = 0 := by (simp at hi; omega)); subst e0; rfl) (by intro x hx; simp at hx; omega)
  exact ⟨_, _, rfl, ho, by simp, HB.out.1.alloc HB.out.2 _⟩

set_option maxHeartbeats 4000000 in
theorem implKb_2_113 (k : Int) (hF : kForm k 113 = 2) (w : World) :
    Calls Tryd.prog 13 #[.agg #[.int .i64 k, .int .i64 113]] w fun e w' => ∃ o F, e = .returned o ∧ OwC w' w.heap.size o [17] F ∧ F.Nodup ∧ Below w.heap.size w w' := by
  have qf : Hid (∀ w', Calls Tryd.prog 21 #[.agg #[.int .i64 k, .int .i64 113]] w' fun e w'' => e = .returned (.int .i64 2) ∧ Below w'.heap.size w' w'') := fun w' => by have := implForm_any k 113 w'; rw [hF] at this; exact this
  clear hF
  go_enter Tryd.func13, Tryd.ntmps13
  go_wp2_with fail
  obtain ⟨W1, hW1⟩ : ∃ U, U = w.alloc (.cells #[.int .i64 k, .int .i64 113] 25) := ⟨_, rfl⟩
  have b1 : Below w.heap.size w W1 := by rw [hW1]; exact (Below.refl _ _).alloc (Nat.le_refl _) _
  have i1 : W1.heap[w.heap.size]? = some (.cells #[.int .i64 k, .int .i64 113] 25 (0, 0)) := by rw [hW1]; exact heap_alloc_new w _
  have z1 : W1.heap.size = w.heap.size + 1 := by rw [hW1]; simp
  rw [← hW1]
  clear hW1
  refine (qf.out _).mono ?_
  rintro e w4 ⟨rfl, h2⟩
  have hz2 := h2.size
  have zl : w.heap.size < w4.heap.size := by omega
  have i4 := (h2.block _ (by omega)).trans i1
  have y0 : w4.cell? ⟨w.heap.size, 0, none⟩ = some (.int .i64 k) := box_cell i4 rfl
  have y1 : w4.cell? ⟨w.heap.size, 1, none⟩ = some (.int .i64 113) := box_cell i4 rfl
  have HB : Hid (Below w.heap.size w w4 ∧ w.heap.size ≤ w4.heap.size) := ⟨b1.trans (h2.mono b1.size), by omega⟩
  clear h2 b1 hz2 z1 i1 i4
  go_wp2
  go_ret
  have ho : OwC (w4.alloc (.cells #[.int .u8 17] 5)) w.heap.size (.slice (some ⟨w4.heap.size, 0, none⟩) 1 1) [17] [w4.heap.size] := owC_row (d := [17]) HB.out.2 (heap_alloc_new w4 _) (Nat.le_refl _) (by decide) (fun i hi => by (have e0 : i = 0 := by (simp at hi; omega)); subst e0; rfl) (by intro x hx; simp at hx; omega)
  exact ⟨_, _, rfl, ho, by simp, HB.out.1.alloc HB.out.2 _⟩

set_option maxHeartbeats 4000000 in
theorem implKb_2_114 (k : Int) (hF : kForm k 114 = 2) (w : World) :
    Calls Tryd.prog 13 #[.agg #[.int .i64 k, .int .i64 114]] w fun e w' => ∃ o F, e = .returned o ∧ OwC w' w.heap.size o [18] F ∧ F.Nodup ∧ Below w.heap.size w w' := by
  have qf : Hid (∀ w', Calls Tryd.prog 21 #[.agg #[.int .i64 k, .int .i64 114]] w' fun e w'' => e = .returned (.int .i64 2) ∧ Below w'.heap.size w' w'') := fun w' => by have := implForm_any k 114 w'; rw [hF] at this; exact this
  clear hF
  go_enter Tryd.func13, Tryd.ntmps13
  go_wp2_with fail
  obtain ⟨W1, hW1⟩ : ∃ U, U = w.alloc (.cells #[.int .i64 k, .int .i64 114] 25) := ⟨_, rfl⟩
  have b1 : Below w.heap.size w W1 := by rw [hW1]; exact (Below.refl _ _).alloc (Nat.le_refl _) _
  have i1 : W1.heap[w.heap.size]? = some (.cells #[.int .i64 k, .int .i64 114] 25 (0, 0)) := by rw [hW1]; exact heap_alloc_new w _
  have z1 : W1.heap.size = w.heap.size + 1 := by rw [hW1]; simp
  rw [← hW1]
  clear hW1
  refine (qf.out _).mono ?_
  rintro e w4 ⟨rfl, h2⟩
  have hz2 := h2.size
  have zl : w.heap.size < w4.heap.size := by omega
  have i4 := (h2.block _ (by omega)).trans i1
  have y0 : w4.cell? ⟨w.heap.size, 0, none⟩ = some (.int .i64 k) := box_cell i4 rfl
  have y1 : w4.cell? ⟨w.heap.size, 1, none⟩ = some (.int .i64 114) := box_cell i4 rfl
  have HB : Hid (Below w.heap.size w w4 ∧ w.heap.size ≤ w4.heap.size) := ⟨b1.trans (h2.mono b1.size), by omega⟩
  clear h2 b1 hz2 z1 i1 i4
  go_wp2
  go_ret
  have ho : OwC (w4.alloc (.cells #[.int .u8 18] 5)) w.heap.size (.slice (some ⟨w4.heap.size, 0, none⟩) 1 1) [18] [w4.heap.size] := owC_row (d := [18]) HB.out.2 (heap_alloc_new w4 _) (Nat.le_refl _) (by decide) (fun i hi => by (have e0 : i = 0 := by (simp at hi; omega)); subst e0; rfl) (by intro x hx; simp at hx; omega)
  exact ⟨_, _, rfl, ho, by simp, HB.out.1.alloc HB.out.2 _⟩

set_option maxHeartbeats 4000000 in
theorem implKb_2_115 (k : Int) (hF : kForm k 115 = 2) (w : World) :
    Calls Tryd.prog 13 #[.agg #[.int .i64 k, .int .i64 115]] w fun e w' => ∃ o F, e = .returned o ∧ OwC w' w.heap.size o [19] F ∧ F.Nodup ∧ Below w.heap.size w w' := by
  have qf : Hid (∀ w', Calls Tryd.prog 21 #[.agg #[.int .i64 k, .int .i64 115]] w' fun e w'' => e = .returned (.int .i64 2) ∧ Below w'.heap.size w' w'') := fun w' => by have := implForm_any k 115 w'; rw [hF] at this; exact this
  clear hF
  go_enter Tryd.func13, Tryd.ntmps13
  go_wp2_with fail
  obtain ⟨W1, hW1⟩ : ∃ U, U = w.alloc (.cells #[.int .i64 k, .int .i64 115] 25) := ⟨_, rfl⟩
  have b1 : Below w.heap.size w W1 := by rw [hW1]; exact (Below.refl _ _).alloc (Nat.le_refl _) _
  have i1 : W1.heap[w.heap.size]? = some (.cells #[.int .i64 k, .int .i64 115] 25 (0, 0)) := by rw [hW1]; exact heap_alloc_new w _
  have z1 : W1.heap.size = w.heap.size + 1 := by rw [hW1]; simp
  rw [← hW1]
  clear hW1
  refine (qf.out _).mono ?_
  rintro e w4 ⟨rfl, h2⟩
  have hz2 := h2.size
  have zl : w.heap.size < w4.heap.size := by omega
  have i4 := (h2.block _ (by omega)).trans i1
  have y0 : w4.cell? ⟨w.heap.size, 0, none⟩ = some (.int .i64 k) := box_cell i4 rfl
  have y1 : w4.cell? ⟨w.heap.size, 1, none⟩ = some (.int .i64 115) := box_cell i4 rfl
  have HB : Hid (Below w.heap.size w w4 ∧ w.heap.size ≤ w4.heap.size) := ⟨b1.trans (h2.mono b1.size), by omega⟩
  clear h2 b1 hz2 z1 i1 i4
  go_wp2
  go_ret
  have ho : OwC (w4.alloc (.cells #[.int .u8 19] 5)) w.heap.size (.slice (some ⟨w4.heap.size, 0, none⟩) 1 1) [19] [w4.heap.size] := owC_row (d := [19]) HB.out.2 (heap_alloc_new w4 _) (Nat.le_refl _) (by decide) (fun i hi => by (have e0 : i = 0 := by (simp at hi; omega)); subst e0; rfl) (by intro x hx; simp at hx; omega)
  exact ⟨_, _, rfl, ho, by simp, HB.out.1.alloc HB.out.2 _⟩

set_option maxHeartbeats 4000000 in
theorem implKb_2_116 (k : Int) (hF : kForm k 116 = 2) (w : World) :
    Calls Tryd.prog 13 #[.agg #[.int .i64 k, .int .i64 116]] w fun e w' => ∃ o F, e = .returned o ∧ OwC w' w.heap.size o [20] F ∧ F.Nodup ∧ Below w.heap.size w w' := by
  have qf : Hid (∀ w', Calls Tryd.prog 21 #[.agg #[.int .i64 k, .int .i64 116]] w' fun e w'' => e = .returned (.int .i64 2) ∧ Below w'.heap.size w' w'') := fun w' => by have := implForm_any k 116 w'; rw [hF] at this; exact this
  clear hF
  go_enter Tryd.func13, Tryd.ntmps13
  go_wp2_with fail
  obtain ⟨W1, hW1⟩ : ∃ U, U = w.alloc (.cells #[.int .i64 k, .int .i64 116] 25) := ⟨_, rfl⟩
  have b1 : Below w.heap.size w W1 := by rw [hW1]; exact (Below.refl _ _).alloc (Nat.le_refl _) _
  have i1 : W1.heap[w.heap.size]? = some (.cells #[.int .i64 k, .int .i64 116] 25 (0, 0)) := by rw [hW1]; exact heap_alloc_new w _
  have z1 : W1.heap.size = w.heap.size + 1 := by rw [hW1]; simp
  rw [← hW1]
  clear hW1
  refine (qf.out _).mono ?_
  rintro e w4 ⟨rfl, h2⟩
  have hz2 := h2.size
  have zl : w.heap.size < w4.heap.size := by omega
  have i4 := (h2.block _ (by omega)).trans i1
  have y0 : w4.cell? ⟨w.heap.size, 0, none⟩ = some (.int .i64 k) := box_cell i4 rfl
  have y1 : w4.cell? ⟨w.heap.size, 1, none⟩ = some (.int .i64 116) := box_cell i4 rfl
  have HB : Hid (Below w.heap.size w w4 ∧ w.heap.size ≤ w4.heap.size) := ⟨b1.trans (h2.mono b1.size), by omega⟩
  clear h2 b1 hz2 z1 i1 i4
  go_wp2
  go_ret
  have ho : OwC (w4.alloc (.cells #[.int .u8 20] 5)) w.heap.size (.slice (some ⟨w4.heap.size, 0, none⟩) 1 1) [20] [w4.heap.size] := owC_row (d := [20]) HB.out.2 (heap_alloc_new w4 _) (Nat.le_refl _) (by decide) (fun i hi => by (have e0 : i = 0 := by (simp at hi; omega)); subst e0; rfl) (by intro x hx; simp at hx; omega)
  exact ⟨_, _, rfl, ho, by simp, HB.out.1.alloc HB.out.2 _⟩

set_option maxHeartbeats 4000000 in
theorem implKb_2_117 (k : Int) (hF : kForm k 117 = 2) (w : World) :
    Calls Tryd.prog 13 #[.agg #[.int .i64 k, .int .i64 117]] w fun e w' => ∃ o F, e = .returned o ∧ OwC w' w.heap.size o [21] F ∧ F.Nodup ∧ Below w.heap.size w w' := by
  have qf : Hid (∀ w', Calls Tryd.prog 21 #[.agg #[.int .i64 k, .int .i64 117]] w' fun e w'' => e = .returned (.int .i64 2) ∧ Below w'.heap.size w' w'') := fun w' => by have := implForm_any k 117 w'; rw [hF] at this; exact this
  clear hF
  go_enter Tryd.func13, Tryd.ntmps13
  go_wp2_with fail
  obtain ⟨W1, hW1⟩ : ∃ U, U = w.alloc (.cells #[.int .i64 k, .int .i64 117] 25) := ⟨_, rfl⟩
  have b1 : Below w.heap.size w W1 := by rw [hW1]; exact (Below.refl _ _).alloc (Nat.le_refl _) _
  have i1 : W1.heap[w.heap.size]? = some (.cells #[.int .i64 k, .int .i64 117] 25 (0, 0)) := by rw [hW1]; exact heap_alloc_new w _
  have z1 : W1.heap.size = w.heap.size + 1 := by rw [hW1]; simp
  rw [← hW1]
  clear hW1
  refine (qf.out _).mono ?_
  rintro e w4 ⟨rfl, h2⟩
  have hz2 := h2.size
  have zl : w.heap.size < w4.heap.size := by omega
  have i4 := (h2.block _ (by omega)).trans i1
  have y0 : w4.cell? ⟨w.heap.size, 0, none⟩ = some (.int .i64 k) := box_cell i4 rfl
  have y1 : w4.cell? ⟨w.heap.size, 1, none⟩ = some (.int .i64 117) := box_cell i4 rfl
  have HB : Hid (Below w.heap.size w w4 ∧ w.heap.size ≤ w4.heap.size) := ⟨b1.trans (h2.mono b1.size), by omega⟩
  clear h2 b1 hz2 z1 i1 i4
  go_wp2
  go_ret
  have ho : OwC (w4.alloc (.cells #[.int .u8 21] 5)) w.heap.size (.slice (some ⟨w4.heap.size, 0, none⟩) 1 1) [21] [w4.heap.size] := owC_row (d := [21]) HB.out.2 (heap_alloc_new w4 _) (Nat.le_refl _) (by decide) (fun i hi => by (have e0 : i = 0 := by (simp at hi; omega)); subst e0; rfl) (by intro x hx; simp at hx; omega)
  exact ⟨_, _, rfl, ho, by simp, HB.out.1.alloc HB.out.2 _⟩

set_option maxHeartbeats 4000000 in
theorem implKb_2_118 (k : Int) (hF : kForm k 118 = 2) (w : World) :
    Calls Tryd.prog 13 #[.agg #[.int .i64 k, .int .i64 118]] w fun e w' => ∃ o F, e = .returned o ∧ OwC w' w.heap.size o [22] F ∧ F.Nodup ∧ Below w.heap.size w w' := by
  have qf : Hid (∀ w', Calls Tryd.prog 21 #[.agg #[.int .i64 k, .int .i64 118]] w' fun e w'' => e = .returned (.int .i64 2) ∧ Below w'.heap.size w' w'') := fun w' => by have := implForm_any k 118 w'; rw [hF] at this; exact this
  clear hF
  go_enter Tryd.func13, Tryd.ntmps13
  go_wp2_with fail
  obtain ⟨W1, hW1⟩ : ∃ U, U = w.alloc (.cells #[.int .i64 k, .int .i64 118] 25) := ⟨_, rfl⟩
  have b1 : Below w.heap.size w W1 := by rw [hW1]; exact (Below.refl _ _).alloc (Nat.le_refl _) _
  have i1 : W1.heap[w.heap.size]? = some (.cells #[.int .i64 k, .int .i64 118] 25 (0, 0)) := by rw [hW1]; exact heap_alloc_new w _
  have z1 : W1.heap.size = w.heap.size + 1 := by rw [hW1]; simp
  rw [← hW1]
  clear hW1
  refine (qf.out _).mono ?_
  rintro e w4 ⟨rfl, h2⟩
  have hz2 := h2.size
  have zl : w.heap.size < w4.heap.size := by omega
  have i4 := (h2.block _ (by omega)).trans i1
  have y0 : w4.cell? ⟨w.heap.size, 0, none⟩ = some (.int .i64 k) := box_cell i4 rfl
  have y1 : w4.cell? ⟨w.heap.size, 1, none⟩ = some (.int .i64 118) := box_cell i4 rfl
  have HB : Hid (Below w.heap.size w w4 ∧ w.heap.size ≤ w4.heap.size) := ⟨b1.trans (h2.mono b1.size), by omega⟩
  clear h2 b1 hz2 z1 i1 i4
  go_wp2
  go_ret
  have ho : OwC (w4.alloc (.cells #[.int .u8 22] 5)) w.heap.size (.slice (some ⟨w4.heap.size, 0, none⟩) 1 1) [22] [w4.heap.size] := owC_row (d := [22]) HB.out.2 (heap_alloc_new w4 _) (Nat.le_refl _) (by decide) (fun i hi => by (have e0 : i = 0 := by (simp at hi; omega)); subst e0; rfl) (by intro x hx; simp at hx; omega)
  exact ⟨_, _, rfl, ho, by simp, HB.out.1.alloc HB.out.2 _⟩

set_option maxHeartbeats 4000000 in
theorem implKb_2_119 (k : Int) (hF : kForm k 119 = 2) (w : World) :
    Calls Tryd.prog 13 #[.agg #[.int .i64 k, .int .i64 119]] w fun e w' => ∃ o F, e = .returned o ∧ OwC w' w.heap.size o [23] F ∧ F.Nodup ∧ Below w.heap.size w w' := by
  have qf : Hid (∀ w', Calls Tryd.prog 21 #[.agg #[.int .i64 k, .int .i64 119]] w' fun e w'' => e = .returned (.int .i64 2) ∧ Below w'.heap.size w' w'') := fun w' => by have := implForm_any k 119 w'; rw [hF] at this; exact this
  clear hF
  go_enter Tryd.func13, Tryd.ntmps13
  go_wp2_with fail
  obtain ⟨W1, hW1⟩ : ∃ U, U = w.alloc (.cells #[.int .i64 k, .int .i64 119] 25) := ⟨_, rfl⟩
  have b1 : Below w.heap.size w W1 := by rw [hW1]; exact (Below.refl _ _).alloc (Nat.le_refl _) _
  have i1 : W1.heap[w.heap.size]? = some (.cells #[.int .i64 k, .int .i64 119] 25 (0, 0)) := by rw [hW1]; exact heap_alloc_new w _
  have z1 : W1.heap.size = w.heap.size + 1 := by rw [hW1]; simp
  rw [← hW1]
  clear hW1
  refine (qf.out _).mono ?_
  rintro e w4 ⟨rfl, h2⟩
  have hz2 := h2.size
  have zl : w.heap.size < w4.heap.size := by omega
  have i4 := (h2.block _ (by omega)).trans i1
  have y0 : w4.cell? ⟨w.heap.size, 0, none⟩ = some (.int .i64 k) := box_cell i4 rfl
  have y1 : w4.cell? ⟨w.heap.size, 1, none⟩ = some (.int .i64 119) := box_cell i4 rfl
  have HB : Hid (Below w.heap.size w w4 ∧ w.heap.size ≤ w4.heap.size) := ⟨b1.trans (h2.mono b1.size), by omega⟩
  clear h2 b1 hz2 z1 i1 i4
  go_wp2
  go_ret
  have ho : OwC (w4.alloc (.cells #[.int .u8 23] 5)) w.heap.size (.slice (some ⟨w4.heap.size, 0, none⟩) 1 1) [23] [w4.heap.size] := owC_row (d := [23]) HB.out.2 (heap_alloc_new w4 _) (Nat.le_refl _) (by decide) (fun i hi => by (have e0 : i = 0 := by (simp at hi; omega)); subst e0; rfl) (by intro x hx; simp at hx; omega)
  exact ⟨_, _, rfl, ho, by simp, HB.out.1.alloc HB.out.2 _⟩

set_option maxHeartbeats 4000000 in
theorem implKb_2_120 (k : Int) (hF : kForm k 120 = 2) (w : World) :
    Calls Tryd.prog 13 #[.agg #[.int .i64 k, .int .i64 120]] w fun e w' => ∃ o F, e = .returned o ∧ OwC w' w.heap.size o [24] F ∧ F.Nodup ∧ Below w.heap.size w w' := by
  have qf : Hid (∀ w', Calls Tryd.prog 21 #[.agg #[.int .i64 k, .int .i64 120]] w' fun e w'' => e = .returned (.int .i64 2) ∧ Below w'.heap.size w' w'') := fun w' => by have := implForm_any k 120 w'; rw [hF] at this; exact this
  clear hF
  go_enter Tryd.func13, Tryd.ntmps13
  go_wp2_with fail
  obtain ⟨W1, hW1⟩ : ∃ U, U = w.alloc (.cells #[.int .i64 k, .int .i64 120] 25) := ⟨_, rfl⟩
  have b1 : Below w.heap.size w W1 := by rw [hW1]; exact (Below.refl _ _).alloc (Nat.le_refl _) _
  have i1 : W1.heap[w.heap.size]? = some (.cells #[.int .i64 k, .int .i64 120] 25 (0, 0)) := by rw [hW1]; exact heap_alloc_new w _
  have z1 : W1.heap.size = w.heap.size + 1 := by rw [hW1]; simp
  rw [← hW1]
  clear hW1
  refine (qf.out _).mono ?_
  rintro e w4 ⟨rfl, h2⟩
  have hz2 := h2.size
  have zl : w.heap.size < w4.heap.size := by omega
  have i4 := (h2.block _ (by omega)).trans i1
  have y0 : w4.cell? ⟨w.heap.size, 0, none⟩ = some (.int .i64 k) := box_cell i4 rfl
  have y1 : w4.cell? ⟨w.heap.size, 1, none⟩ = some (.int .i64 120) := box_cell i4 rfl
  have HB : Hid (Below w.heap.size w w4 ∧ w.heap.size ≤ w4.heap.size) := ⟨b1.trans (h2.mono b1.size), by omega⟩
  clear h2 b1 hz2 z1 i1 i4
  go_wp2
  go_ret
  have ho : OwC (w4.alloc (.cells #[.int .u8 24] 5)) w.heap.size (.slice (some ⟨w4.heap.size, 0, none⟩) 1 1) [24] [w4.heap.size] := owC_row (d := [24]) HB.out.2 (heap_alloc_new w4 _) (Nat.le_refl _) (by decide) (fun i hi => by (have e0 : i = 0 := by (simp at hi; omega)); subst e0; rfl) (by intro x hx; simp at hx; omega)
  exact ⟨_, _, rfl, ho, by simp, HB.out.1.alloc HB.out.2 _⟩

set_option maxHeartbeats 4000000 in
theorem implKb_2_121 (k : Int) (hF : kForm k 121 = 2) (w : World) :
    Calls Tryd.prog 13 #[.agg #[.int .i64 k, .int .i64 121]] w fun e w' => ∃ o F, e = .returned o ∧ OwC w' w.heap.size o [25] F ∧ F.Nodup ∧ Below w.heap.size w w' := by
  have qf : Hid (∀ w', Calls Tryd.prog 21 #[.agg #[.int .i64 k, .int .i64 121]] w' fun e w'' => e = .returned (.int .i64 2) ∧ Below w'.heap.size w' w'') := fun w' => by have := implForm_any k 121 w'; rw [hF] at this; exact this
  clear hF
  go_enter Tryd.func13, Tryd.ntmps13
  go_wp2_with fail
  obtain ⟨W1, hW1⟩ : ∃ U, U = w.alloc (.cells #[.int .i64 k, .int .i64 121] 25) := ⟨_, rfl⟩
  have b1 : Below w.heap.size w W1 := by rw [hW1]; exact (Below.refl _ _).alloc (Nat.le_refl _) _
  have i1 : W1.heap[w.heap.size]? = some (.cells #[.int .i64 k, .int .i64 121] 25 (0, 0)) := by rw [hW1]; exact heap_alloc_new w _
  have z1 : W1.heap.size = w.heap.size + 1 := by rw [hW1]; simp
  rw [← hW1]
  clear hW1
  refine (qf.out _).mono ?_
  rintro e w4 ⟨rfl, h2⟩
  have hz2 := h2.size
  have zl : w.heap.size < w4.heap.size := by omega
  have i4 := (h2.block _ (by omega)).trans i1
  have y0 : w4.cell? ⟨w.heap.size, 0, none⟩ = some (.int .i64 k) := box_cell i4 rfl
  have y1 : w4.cell? ⟨w.heap.size, 1, none⟩ = some (.int .i64 121) := box_cell i4 rfl
  have HB : Hid (Below w.heap.size w w4 ∧ w.heap.size ≤ w4.heap.size) := ⟨b1.trans (h2.mono b1.size), by omega⟩
  clear h2 b1 hz2 z1 i1 i4
  go_wp2
  go_ret
  have ho : OwC (w4.alloc (.cells #[.int .u8 25] 5)) w.heap.size (.slice (some ⟨w4.heap.size, 0, none⟩) 1 1) [25] [w4.heap.size] := owC_row (d := [25]) HB.out.2 (heap_alloc_new w4 _) (Nat.le_refl _) (by decide) (fun i hi => by (have e0 : i = 0 := by (simp at hi; omega)); subst e0; rfl) (by intro x hx; simp at hx; omega)
  exact ⟨_, _, rfl, ho, by simp, HB.out.1.alloc HB.out.2 _⟩

set_option maxHeartbeats 4000000 in
theorem implKb_2_122 (k : Int) (hF : kForm k 122 = 2) (w : World) :
    Calls Tryd.prog 13 #[.agg #[.int .i64 k, .int .i64 122]] w fun e w' => ∃ o F, e = .returned o ∧ OwC w' w.heap.size o [26] F ∧ F.Nodup ∧ Below w.heap.size w w' := by
  have qf : Hid (∀ w', Calls Tryd.prog 21 #[.agg #[.int .i64 k, .int .i64 122]] w' fun e w'' => e = .returned (.int .i64 2) ∧ Below w'.heap.size w' w'') := fun w' => by have := implForm_any k 122 w'; rw [hF] at this; exact this
  clear hF
  go_enter Tryd.func13, Tryd.ntmps13
  go_wp2_with fail
  obtain ⟨W1, hW1⟩ : ∃ U, U = w.alloc (.cells #[.int .i64 k, .int .i64 122] 25) := ⟨_, rfl⟩
  have b1 : Below w.heap.size w W1 := by rw [hW1]; exact (Below.refl _ _).alloc (Nat.le_refl _) _
  have i1 : W1.heap[w.heap.size]? = some (.cells #[.int .i64 k, .int .i64 122] 25 (0, 0)) := by rw [hW1]; exact heap_alloc_new w _
  have z1 : W1.heap.size = w.heap.size + 1 := by rw [hW1]; simp
  rw [← hW1]
  clear hW1
  refine (qf.out _).mono ?_
  rintro e w4 ⟨rfl, h2⟩
  have hz2 := h2.size
  have zl : w.heap.size < w4.heap.size := by omega
  have i4 := (h2.block _ (by omega)).trans i1
  have y0 : w4.cell? ⟨w.heap.size, 0, none⟩ = some (.int .i64 k) := box_cell i4 rfl
  have y1 : w4.cell? ⟨w.heap.size, 1, none⟩ = some (.int .i64 122) := box_cell i4 rfl
  have HB : Hid (Below w.heap.size w w4 ∧ w.heap.size ≤ w4.heap.size) := ⟨b1.trans (h2.mono b1.size), by omega⟩
  clear h2 b1 hz2 z1 i1 i4
  go_wp2
  go_ret
  have ho : OwC (w4.alloc (.cells #[.int .u8 26] 5)) w.heap.size (.slice (some ⟨w4.heap.size, 0, none⟩) 1 1) [26] [w4.heap.size] := owC_row (d := [26]) HB.out.2 (heap_alloc_new w4 _) (Nat.le_refl _) (by decide) (fun i hi => by (have e0 : i = 0 := by (simp at hi; omega)); subst e0; rfl) (by intro x hx; simp at hx; omega)
  exact ⟨_, _, rfl, ho, by simp, HB.out.1.alloc HB.out.2 _⟩

set_option maxHeartbeats 4000000 in
theorem implKb_3 (k r : Int) (hF : kForm k r = 3) (h1 : 33 ≤ r) (h2 : r ≤ 126) (w : World) :
    Calls Tryd.prog 13 #[.agg #[.int .i64 k, .int .i64 r]] w fun e w' => ∃ o F, e = .returned o ∧ OwC w' w.heap.size o [27, r] F ∧ F.Nodup ∧ Below w.heap.size w w' := by
  have qf : Hid (∀ w', Calls Tryd.prog 21 #[.agg #[.int .i64 k, .int .i64 r]] w' fun e w'' => e = .returned (.int .i64 3) ∧ Below w'.heap.size w' w'') := fun w' => by have := implForm_any k r w'; rw [hF] at this; exact this
  clear hF
  go_enter Tryd.func13, Tryd.ntmps13
  go_wp2_with fail
  obtain ⟨W1, hW1⟩ : ∃ U, U = w.alloc (.cells #[.int .i64 k, .int .i64 r] 25) := ⟨_, rfl⟩
  have b1 : Below w.heap.size w W1 := by rw [hW1]; exact (Below.refl _ _).alloc (Nat.le_refl _) _
  have i1 : W1.heap[w.heap.size]? = some (.cells #[.int .i64 k, .int .i64 r] 25 (0, 0)) := by rw [hW1]; exact heap_alloc_new w _
  have z1 : W1.heap.size = w.heap.size + 1 := by rw [hW1]; simp
  rw [← hW1]
  clear hW1
  refine (qf.out _).mono ?_
  rintro e w4 ⟨rfl, h2⟩
  have hz2 := h2.size
  have zl : w.heap.size < w4.heap.size := by omega
  have i4 := (h2.block _ (by omega)).trans i1
  have y0 : w4.cell? ⟨w.heap.size, 0, none⟩ = some (.int .i64 k) := box_cell i4 rfl
  have y1 : w4.cell? ⟨w.heap.size, 1, none⟩ = some (.int .i64 r) := box_cell i4 rfl
  have HB : Hid (Below w.heap.size w w4 ∧ w.heap.size ≤ w4.heap.size) := ⟨b1.trans (h2.mono b1.size), by omega⟩
  clear h2 b1 hz2 z1 i1 i4
  go_wp2
  go_ret
  have ho : OwC (w4.alloc (.cells #[.int .u8 27, .int .u8 r] 5)) w.heap.size (.slice (some ⟨w4.heap.size, 0, none⟩) 2 2) [27, r] [w4.heap.size] := owC_row (d := [27, r]) HB.out.2 (heap_alloc_new w4 _) (Nat.le_refl _) (by decide) (fun i hi => by (have e0 : i = 0 ∨ i = 1 := by (simp at hi; omega)); (rcases e0 with e0 | e0 <;> subst e0 <;> rfl)) (by intro x hx; simp at hx; omega)
  exact ⟨_, _, rfl, ho, by simp, HB.out.1.alloc HB.out.2 _⟩

set_option maxHeartbeats 4000000 in
theorem implKb_n0  (w : World) (hN : Nams w) :
    Calls Tryd.prog 13 #[.agg #[.int .i64 4, .int .i64 0]] w fun e w' => ∃ o F, e = .returned o ∧ OwC w' w.heap.size o (snZ 0) F ∧ F.Nodup ∧ Below w.heap.size w w' := by
  have hF : kForm 4 0 = 4 := rfl
  have HN := hN.2 0 (by omega)
  have qf : Hid (∀ w', Calls Tryd.prog 21 #[.agg #[.int .i64 4, .int .i64 0]] w' fun e w'' => e = .returned (.int .i64 4) ∧ Below w'.heap.size w' w'') := fun w' => by have := implForm_any 4 0 w'; rw [hF] at this; exact this
  clear hF
  go_enter Tryd.func13, Tryd.ntmps13
  go_wp2_with fail
  obtain ⟨W1, hW1⟩ : ∃ U, U = w.alloc (.cells #[.int .i64 4, .int .i64 0] 25) := ⟨_, rfl⟩
  have b1 : Below w.heap.size w W1 := by rw [hW1]; exact (Below.refl _ _).alloc (Nat.le_refl _) _
  have i1 : W1.heap[w.heap.size]? = some (.cells #[.int .i64 4, .int .i64 0] 25 (0, 0)) := by rw [hW1]; exact heap_alloc_new w _
  have z1 : W1.heap.size = w.heap.size + 1 := by rw [hW1]; simp
  rw [← hW1]
  clear hW1
  refine (qf.out _).mono ?_
  rintro e w4 ⟨rfl, h2⟩
  have hz2 := h2.size
  have zl : w.heap.size < w4.heap.size := by omega
  have i4 := (h2.block _ (by omega)).trans i1
  have y0 : w4.cell? ⟨w.heap.size, 0, none⟩ = some (.int .i64 4) := box_cell i4 rfl
  have y1 : w4.cell? ⟨w.heap.size, 1, none⟩ = some (.int .i64 0) := box_cell i4 rfl
  have HB : Hid (Below w.heap.size w w4 ∧ w.heap.size ≤ w4.heap.size) := ⟨b1.trans (h2.mono b1.size), by omega⟩
  clear h2 b1 hz2 z1 i1 i4
  have HN4 : w4.cell? ⟨0, 1, none⟩ = some (.string ⟨#[13]⟩) := (HB.out.1.cell (p := ⟨0, 1, none⟩) (World.block_lt_of_cell? w _ HN)).trans HN
  clear HN
  have hcv := fun W : World => Lib.run_convert_string_bytes (P := Tryd.prog) W 9 32 5 ⟨#[13]⟩ Tryd.underlying9 Tryd.underlying32 Tryd.underlying5
  go_wp2
  go_ret
  have zW : w.heap.size ≤ w4.heap.size := HB.out.2
  have ho := (owC_conv w4 ⟨#[13]⟩ (by decide)).base zW
  have hb := (HB.out.1).trans ((below_conv w4 ⟨#[13]⟩).mono zW)
  exact ⟨_, _, rfl, ho, by simp, hb⟩

set_option maxHeartbeats 4000000 in
theorem implKb_n1  (w : World) (hN : Nams w) :
    Calls Tryd.prog 13 #[.agg #[.int .i64 5, .int .i64 0]] w fun e w' => ∃ o F, e = .returned o ∧ OwC w' w.heap.size o (snZ 1) F ∧ F.Nodup ∧ Below w.heap.size w w' := by
  have hF : kForm 5 0 = 4 := rfl
  have HN := hN.2 1 (by omega)
  have qf : Hid (∀ w', Calls Tryd.prog 21 #[.agg #[.int .i64 5, .int .i64 0]] w' fun e w'' => e = .returned (.int .i64 4) ∧ Below w'.heap.size w' w'') := fun w' => by have := implForm_any 5 0 w'; rw [hF] at this; exact this
  clear hF
  go_enter Tryd.func13, Tryd.ntmps13
  go_wp2_with fail
  obtain ⟨W1, hW1⟩ : ∃ U, U = w.alloc (.cells #[.int .i64 5, .int .i64 0] 25) := ⟨_, rfl⟩
  have b1 : Below w.heap.size w W1 := by rw [hW1]; exact (Below.refl _ _).alloc (Nat.le_refl _) _
  have i1 : W1.heap[w.heap.size]? = some (.cells #[.int .i64 5, .int .i64 0] 25 (0, 0)) := by rw [hW1]; exact heap_alloc_new w _
  have z1 : W1.heap.size = w.heap.size + 1 := by rw [hW1]; simp
  rw [← hW1]
  clear hW1
  refine (qf.out _).mono ?_
  rintro e w4 ⟨rfl, h2⟩
  have hz2 := h2.size
  have zl : w.heap.size < w4.heap.size := by omega
  have i4 := (h2.block _ (by omega)).trans i1
  have y0 : w4.cell? ⟨w.heap.size, 0, none⟩ = some (.int .i64 5) := box_cell i4 rfl
  have y1 : w4.cell? ⟨w.heap.size, 1, none⟩ = some (.int .i64 0) := box_cell i4 rfl
  have HB : Hid (Below w.heap.size w w4 ∧ w.heap.size ≤ w4.heap.size) := ⟨b1.trans (h2.mono b1.size), by omega⟩
  clear h2 b1 hz2 z1 i1 i4
  have HN4 : w4.cell? ⟨0, 3, none⟩ = some (.string ⟨#[127]⟩) := (HB.out.1.cell (p := ⟨0, 3, none⟩) (World.block_lt_of_cell? w _ HN)).trans HN
  clear HN
  have hcv := fun W : World => Lib.run_convert_string_bytes (P := Tryd.prog) W 9 32 5 ⟨#[127]⟩ Tryd.underlying9 Tryd.underlying32 Tryd.underlying5
  go_wp2
  go_ret
  have zW : w.heap.size ≤ w4.heap.size := HB.out.2
  have ho := (owC_conv w4 ⟨#[127]⟩ (by decide)).base zW
  have hb := (HB.out.1).trans ((below_conv w4 ⟨#[127]⟩).mono zW)
  exact ⟨_, _, rfl, ho, by simp, hb⟩

set_option maxHeartbeats 4000000 in
theorem implKb_n2  (w : World) (hN : Nams w) :
    Calls Tryd.prog 13 #[.agg #[.int .i64 6, .int .i64 0]] w fun e w' => ∃ o F, e = .returned o ∧ OwC w' w.heap.size o (snZ 2) F ∧ F.Nodup ∧ Below w.heap.size w w' := by
  have hF : kForm 6 0 = 4 := rfl
  have HN := hN.2 2 (by omega)
  have qf : Hid (∀ w', Calls Tryd.prog 21 #[.agg #[.int .i64 6, .int .i64 0]] w' fun e w'' => e = .returned (.int .i64 4) ∧ Below w'.heap.size w' w'') := fun w' => by have := implForm_any 6 0 w'; rw [hF] at this; exact this
  clear hF
  go_enter Tryd.func13, Tryd.ntmps13
  go_wp2_with fail
  obtain ⟨W1, hW1⟩ : ∃ U, U = w.alloc (.cells #[.int .i64 6, .int .i64 0] 25) := ⟨_, rfl⟩
  have b1 : Below w.heap.size w W1 := by rw [hW1]; exact (Below.refl _ _).alloc (Nat.le_refl _) _
  have i1 : W1.heap[w.heap.size]? = some (.cells #[.int .i64 6, .int .i64 0] 25 (0, 0)) := by rw [hW1]; exact heap_alloc_new w _
  have z1 : W1.heap.size = w.heap.size + 1 := by rw [hW1]; simp
  rw [← hW1]
  clear hW1
  refine (qf.out _).mono ?_
  rintro e w4 ⟨rfl, h2⟩
  have hz2 := h2.size
  have zl : w.heap.size < w4.heap.size := by omega
  have i4 := (h2.block _ (by omega)).trans i1
  have y0 : w4.cell? ⟨w.heap.size, 0, none⟩ = some (.int .i64 6) := box_cell i4 rfl
  have y1 : w4.cell? ⟨w.heap.size, 1, none⟩ = some (.int .i64 0) := box_cell i4 rfl
  have HB : Hid (Below w.heap.size w w4 ∧ w.heap.size ≤ w4.heap.size) := ⟨b1.trans (h2.mono b1.size), by omega⟩
  clear h2 b1 hz2 z1 i1 i4
  have HN4 : w4.cell? ⟨0, 5, none⟩ = some (.string ⟨#[9]⟩) := (HB.out.1.cell (p := ⟨0, 5, none⟩) (World.block_lt_of_cell? w _ HN)).trans HN
  clear HN
  have hcv := fun W : World => Lib.run_convert_string_bytes (P := Tryd.prog) W 9 32 5 ⟨#[9]⟩ Tryd.underlying9 Tryd.underlying32 Tryd.underlying5
  go_wp2
  go_ret
  have zW : w.heap.size ≤ w4.heap.size := HB.out.2
  have ho := (owC_conv w4 ⟨#[9]⟩ (by decide)).base zW
  have hb := (HB.out.1).trans ((below_conv w4 ⟨#[9]⟩).mono zW)
  exact ⟨_, _, rfl, ho, by simp, hb⟩

set_option maxHeartbeats 4000000 in
theorem implKb_n3  (w : World) (hN : Nams w) :
    Calls Tryd.prog 13 #[.agg #[.int .i64 7, .int .i64 0]] w fun e w' => ∃ o F, e = .returned o ∧ OwC w' w.heap.size o (snZ 3) F ∧ F.Nodup ∧ Below w.heap.size w w' := by
  have hF : kForm 7 0 = 4 := rfl
  have HN := hN.2 3 (by omega)
  have qf : Hid (∀ w', Calls Tryd.prog 21 #[.agg #[.int .i64 7, .int .i64 0]] w' fun e w'' => e = .returned (.int .i64 4) ∧ Below w'.heap.size w' w'') := fun w' => by have := implForm_any 7 0 w'; rw [hF] at this; exact this
  clear hF
  go_enter Tryd.func13, Tryd.ntmps13
  go_wp2_with fail
  obtain ⟨W1, hW1⟩ : ∃ U, U = w.alloc (.cells #[.int .i64 7, .int .i64 0] 25) := ⟨_, rfl⟩
  have b1 : Below w.heap.size w W1 := by rw [hW1]; exact (Below.refl _ _).alloc (Nat.le_refl _) _
  have i1 : W1.heap[w.heap.size]? = some (.cells #[.int .i64 7, .int .i64 0] 25 (0, 0)) := by rw [hW1]; exact heap_alloc_new w _
  have z1 : W1.heap.size = w.heap.size + 1 := by rw [hW1]; simp
  rw [← hW1]
  clear hW1
  refine (qf.out _).mono ?_
  rintro e w4 ⟨rfl, h2⟩
  have hz2 := h2.size
  have zl : w.heap.size < w4.heap.size := by omega
  have i4 := (h2.block _ (by omega)).trans i1
  have y0 : w4.cell? ⟨w.heap.size, 0, none⟩ = some (.int .i64 7) := box_cell i4 rfl
  have y1 : w4.cell? ⟨w.heap.size, 1, none⟩ = some (.int .i64 0) := box_cell i4 rfl
  have HB : Hid (Below w.heap.size w w4 ∧ w.heap.size ≤ w4.heap.size) := ⟨b1.trans (h2.mono b1.size), by omega⟩
  clear h2 b1 hz2 z1 i1 i4
  have HN4 : w4.cell? ⟨0, 7, none⟩ = some (.string ⟨#[27]⟩) := (HB.out.1.cell (p := ⟨0, 7, none⟩) (World.block_lt_of_cell? w _ HN)).trans HN
  clear HN
  have hcv := fun W : World => Lib.run_convert_string_bytes (P := Tryd.prog) W 9 32 5 ⟨#[27]⟩ Tryd.underlying9 Tryd.underlying32 Tryd.underlying5
  go_wp2
  go_ret
  have zW : w.heap.size ≤ w4.heap.size := HB.out.2
  have ho := (owC_conv w4 ⟨#[27]⟩ (by decide)).base zW
  have hb := (HB.out.1).trans ((below_conv w4 ⟨#[27]⟩).mono zW)
  exact ⟨_, _, rfl, ho, by simp, hb⟩

set_option maxHeartbeats 4000000 in
theorem implKb_n4  (w : World) (hN : Nams w) :
    Calls Tryd.prog 13 #[.agg #[.int .i64 8, .int .i64 0]] w fun e w' => ∃ o F, e = .returned o ∧ OwC w' w.heap.size o (snZ 4) F ∧ F.Nodup ∧ Below w.heap.size w w' := by
  have hF : kForm 8 0 = 4 := rfl
  have HN := hN.2 4 (by omega)
  have qf : Hid (∀ w', Calls Tryd.prog 21 #[.agg #[.int .i64 8, .int .i64 0]] w' fun e w'' => e = .returned (.int .i64 4) ∧ Below w'.heap.size w' w'') := fun w' => by have := implForm_any 8 0 w'; rw [hF] at this; exact this
  clear hF
  go_enter Tryd.func13, Tryd.ntmps13
  go_wp2_with fail
  obtain ⟨W1, hW1⟩ : ∃ U, U = w.alloc (.cells #[.int .i64 8, .int .i64 0] 25) := ⟨_, rfl⟩
  have b1 : Below w.heap.size w W1 := by rw [hW1]; exact (Below.refl _ _).alloc (Nat.le_refl _) _
  have i1 : W1.heap[w.heap.size]? = some (.cells #[.int .i64 8, .int .i64 0] 25 (0, 0)) := by rw [hW1]; exact heap_alloc_new w _
  have z1 : W1.heap.size = w.heap.size + 1 := by rw [hW1]; simp
  rw [← hW1]
  clear hW1
  refine (qf.out _).mono ?_
  rintro e w4 ⟨rfl, h2⟩
  have hz2 := h2.size
  have zl : w.heap.size < w4.heap.size := by omega
  have i4 := (h2.block _ (by omega)).trans i1
  have y0 : w4.cell? ⟨w.heap.size, 0, none⟩ = some (.int .i64 8) := box_cell i4 rfl
  have y1 : w4.cell? ⟨w.heap.size, 1, none⟩ = some (.int .i64 0) := box_cell i4 rfl
  have HB : Hid (Below w.heap.size w w4 ∧ w.heap.size ≤ w4.heap.size) := ⟨b1.trans (h2.mono b1.size), by omega⟩
  clear h2 b1 hz2 z1 i1 i4
  have HN4 : w4.cell? ⟨0, 9, none⟩ = some (.string ⟨#[27, 91, 65]⟩) := (HB.out.1.cell (p := ⟨0, 9, none⟩) (World.block_lt_of_cell? w _ HN)).trans HN
  clear HN
  have hcv := fun W : World => Lib.run_convert_string_bytes (P := Tryd.prog) W 9 32 5 ⟨#[27, 91, 65]⟩ Tryd.underlying9 Tryd.underlying32 Tryd.underlying5
  go_wp2
  go_ret
  have zW : w.heap.size ≤ w4.heap.size := HB.out.2
  have ho := (owC_conv w4 ⟨#[27, 91, 65]⟩ (by decide)).base zW
  have hb := (HB.out.1).trans ((below_conv w4 ⟨#[27, 91, 65]⟩).mono zW)
  exact ⟨_, _, rfl, ho, by simp, hb⟩

set_option maxHeartbeats 4000000 in
theorem implKb_n5  (w : World) (hN : Nams w) :
    Calls Tryd.prog 13 #[.agg #[.int .i64 9, .int .i64 0]] w fun e w' => ∃ o F, e = .returned o ∧ OwC w' w.heap.size o (snZ 5) F ∧ F.Nodup ∧ Below w.heap.size w w' := by
  have hF : kForm 9 0 = 4 := rfl
  have HN := hN.2 5 (by omega)
  have qf : Hid (∀ w', Calls Tryd.prog 21 #[.agg #[.int .i64 9, .int .i64 0]] w' fun e w'' => e = .returned (.int .i64 4) ∧ Below w'.heap.size w' w'') := fun w' => by have := implForm_any 9 0 w'; rw [hF] at this; exact this
  clear hF
  go_enter Tryd.func13, Tryd.ntmps13
  go_wp2_with fail
  obtain ⟨W1, hW1⟩ : ∃ U, U = w.alloc (.cells #[.int .i64 9, .int .i64 0] 25) := ⟨_, rfl⟩
  have b1 : Below w.heap.size w W1 := by rw [hW1]; exact (Below.refl _ _).alloc (Nat.le_refl _) _
  have i1 : W1.heap[w.heap.size]? = some (.cells #[.int .i64 9, .int .i64 0] 25 (0, 0)) := by rw [hW1]; exact heap_alloc_new w _
  have z1 : W1.heap.size = w.heap.size + 1 := by rw [hW1]; simp
  rw [← hW1]
  clear hW1
  refine (qf.out _).mono ?_
  rintro e w4 ⟨rfl, h2⟩
  have hz2 := h2.size
  have zl : w.heap.size < w4.heap.size := by omega
  have i4 := (h2.block _ (by omega)).trans i1
  have y0 : w4.cell? ⟨w.heap.size, 0, none⟩ = some (.int .i64 9) := box_cell i4 rfl
  have y1 : w4.cell? ⟨w.heap.size, 1, none⟩ = some (.int .i64 0) := box_cell i4 rfl
  have HB : Hid (Below w.heap.size w w4 ∧ w.heap.size ≤ w4.heap.size) := ⟨b1.trans (h2.mono b1.size), by omega⟩
  clear h2 b1 hz2 z1 i1 i4
  have HN4 : w4.cell? ⟨0, 11, none⟩ = some (.string ⟨#[27, 91, 66]⟩) := (HB.out.1.cell (p := ⟨0, 11, none⟩) (World.block_lt_of_cell? w _ HN)).trans HN
  clear HN
  have hcv := fun W : World => Lib.run_convert_string_bytes (P := Tryd.prog) W 9 32 5 ⟨#[27, 91, 66]⟩ Tryd.underlying9 Tryd.underlying32 Tryd.underlying5
  go_wp2
  go_ret
  have zW : w.heap.size ≤ w4.heap.size := HB.out.2
  have ho := (owC_conv w4 ⟨#[27, 91, 66]⟩ (by decide)).base zW
  have hb := (HB.out.1).trans ((below_conv w4 ⟨#[27, 91, 66]⟩).mono zW)
  exact ⟨_, _, rfl, ho, by simp, hb⟩

set_option maxHeartbeats 4000000 in
theorem implKb_n6  (w : World) (hN : Nams w) :
    Calls Tryd.prog 13 #[.agg #[.int .i64 10, .int .i64 0]] w fun e w' => ∃ o F, e = .returned o ∧ OwC w' w.heap.size o (snZ 6) F ∧ F.Nodup ∧ Below w.heap.size w w' := by
  have hF : kForm 10 0 = 4 := rfl
  have HN := hN.2 6 (by omega)
  have qf : Hid (∀ w', Calls Tryd.prog 21 #[.agg #[.int .i64 10, .int .i64 0]] w' fun e w'' => e = .returned (.int .i64 4) ∧ Below w'.heap.size w' w'') := fun w' => by have := implForm_any 10 0 w'; rw [hF] at this; exact this
  clear hF
  go_enter Tryd.func13, Tryd.ntmps13
  go_wp2_with fail
  obtain ⟨W1, hW1⟩ : ∃ U, U = w.alloc (.cells #[.int .i64 10, .int .i64 0] 25) := ⟨_, rfl⟩
  have b1 : Below w.heap.size w W1 := by rw [hW1]; exact (Below.refl _ _).alloc (Nat.le_refl _) _
  have i1 : W1.heap[w.heap.size]? = some (.cells #[.int .i64 10, .int .i64 0] 25 (0, 0)) := by rw [hW1]; exact heap_alloc_new w _
  have z1 : W1.heap.size = w.heap.size + 1 := by rw [hW1]; simp
  rw [← hW1]
  clear hW1
  refine (qf.out _).mono ?_
  rintro e w4 ⟨rfl, h2⟩
  have hz2 := h2.size
  have zl : w.heap.size < w4.heap.size := by omega
  have i4 := (h2.block _ (by omega)).trans i1
  have y0 : w4.cell? ⟨w.heap.size, 0, none⟩ = some (.int .i64 10) := box_cell i4 rfl
  have y1 : w4.cell? ⟨w.heap.size, 1, none⟩ = some (.int .i64 0) := box_cell i4 rfl
  have HB : Hid (Below w.heap.size w w4 ∧ w.heap.size ≤ w4.heap.size) := ⟨b1.trans (h2.mono b1.size), by omega⟩
  clear h2 b1 hz2 z1 i1 i4
  have HN4 : w4.cell? ⟨0, 13, none⟩ = some (.string ⟨#[27, 91, 67]⟩) := (HB.out.1.cell (p := ⟨0, 13, none⟩) (World.block_lt_of_cell? w _ HN)).trans HN
  clear HN
  have hcv := fun W : World => Lib.run_convert_string_bytes (P := Tryd.prog) W 9 32 5 ⟨#[27, 91, 67]⟩ Tryd.underlying9 Tryd.underlying32 Tryd.underlying5
  go_wp2
  go_ret
  have zW : w.heap.size ≤ w4.heap.size := HB.out.2
  have ho := (owC_conv w4 ⟨#[27, 91, 67]⟩ (by decide)).base zW
  have hb := (HB.out.1).trans ((below_conv w4 ⟨#[27, 91, 67]⟩).mono zW)
  exact ⟨_, _, rfl, ho, by simp, hb⟩

set_option maxHeartbeats 4000000 in
theorem implKb_n7  (w : World) (hN : Nams w) :
    Calls Tryd.prog 13 #[.agg #[.int .i64 11, .int .i64 0]] w fun e w' => ∃ o F, e = .returned o ∧ OwC w' w.heap.size o (snZ 7) F ∧ F.Nodup ∧ Below w.heap.size w w' := by
  have hF : kForm 11 0 = 4 := rfl
  have HN := hN.2 7 (by omega)
  have qf : Hid (∀ w', Calls Tryd.prog 21 #[.agg #[.int .i64 11, .int .i64 0]] w' fun e w'' => e = .returned (.int .i64 4) ∧ Below w'.heap.size w' w'') := fun w' => by have := implForm_any 11 0 w'; rw [hF] at this; exact this
  clear hF
  go_enter Tryd.func13, Tryd.ntmps13
  go_wp2_with fail
  obtain ⟨W1, hW1⟩ : ∃ U, U = w.alloc (.cells #[.int .i64 11, .int .i64 0] 25) := ⟨_, rfl⟩
  have b1 : Below w.heap.size w W1 := by rw [hW1]; exact (Below.refl _ _).alloc (Nat.le_refl _) _
  have i1 : W1.heap[w.heap.size]? = some (.cells #[.int .i64 11, .int .i64 0] 25 (0, 0)) := by rw [hW1]; exact heap_alloc_new w _
  have z1 : W1.heap.size = w.heap.size + 1 := by rw [hW1]; simp
  rw [← hW1]
  clear hW1
  refine (qf.out _).mono ?_
  rintro e w4 ⟨rfl, h2⟩
  have hz2 := h2.size
  have zl : w.heap.size < w4.heap.size := by omega
  have i4 := (h2.block _ (by omega)).trans i1
  have y0 : w4.cell? ⟨w.heap.size, 0, none⟩ = some (.int .i64 11) := box_cell i4 rfl
  have y1 : w4.cell? ⟨w.heap.size, 1, none⟩ = some (.int .i64 0) := box_cell i4 rfl
  have HB : Hid (Below w.heap.size w w4 ∧ w.heap.size ≤ w4.heap.size) := ⟨b1.trans (h2.mono b1.size), by omega⟩
  clear h2 b1 hz2 z1 i1 i4
  have HN4 : w4.cell? ⟨0, 15, none⟩ = some (.string ⟨#[27, 91, 68]⟩) := (HB.out.1.cell (p := ⟨0, 15, none⟩) (World.block_lt_of_cell? w _ HN)).trans HN
  clear HN
  have hcv := fun W : World => Lib.run_convert_string_bytes (P := Tryd.prog) W 9 32 5 ⟨#[27, 91, 68]⟩ Tryd.underlying9 Tryd.underlying32 Tryd.underlying5
  go_wp2
  go_ret
  have zW : w.heap.size ≤ w4.heap.size := HB.out.2
  have ho := (owC_conv w4 ⟨#[27, 91, 68]⟩ (by decide)).base zW
  have hb := (HB.out.1).trans ((below_conv w4 ⟨#[27, 91, 68]⟩).mono zW)
  exact ⟨_, _, rfl, ho, by simp, hb⟩

set_option maxHeartbeats 4000000 in
theorem implKb_n8  (w : World) (hN : Nams w) :
    Calls Tryd.prog 13 #[.agg #[.int .i64 12, .int .i64 0]] w fun e w' => ∃ o F, e = .returned o ∧ OwC w' w.heap.size o (snZ 8) F ∧ F.Nodup ∧ Below w.heap.size w w' := by
  have hF : kForm 12 0 = 4 := rfl
  have HN := hN.2 8 (by omega)
  have qf : Hid (∀ w', Calls Tryd.prog 21 #[.agg #[.int .i64 12, .int .i64 0]] w' fun e w'' => e = .returned (.int .i64 4) ∧ Below w'.heap.size w' w'') := fun w' => by have := implForm_any 12 0 w'; rw [hF] at this; exact this
  clear hF
  go_enter Tryd.func13, Tryd.ntmps13
  go_wp2_with fail
  obtain ⟨W1, hW1⟩ : ∃ U, U = w.alloc (.cells #[.int .i64 12, .int .i64 0] 25) := ⟨_, rfl⟩
  have b1 : Below w.heap.size w W1 := by rw [hW1]; exact (Below.refl _ _).alloc (Nat.le_refl _) _
  have i1 : W1.heap[w.heap.size]? = some (.cells #[.int .i64 12, .int .i64 0] 25 (0, 0)) := by rw [hW1]; exact heap_alloc_new w _
  have z1 : W1.heap.size = w.heap.size + 1 := by rw [hW1]; simp
  rw [← hW1]
  clear hW1
  refine (qf.out _).mono ?_
  rintro e w4 ⟨rfl, h2⟩
  have hz2 := h2.size
  have zl : w.heap.size < w4.heap.size := by omega
  have i4 := (h2.block _ (by omega)).trans i1
  have y0 : w4.cell? ⟨w.heap.size, 0, none⟩ = some (.int .i64 12) := box_cell i4 rfl
  have y1 : w4.cell? ⟨w.heap.size, 1, none⟩ = some (.int .i64 0) := box_cell i4 rfl
  have HB : Hid (Below w.heap.size w w4 ∧ w.heap.size ≤ w4.heap.size) := ⟨b1.trans (h2.mono b1.size), by omega⟩
  clear h2 b1 hz2 z1 i1 i4
  have HN4 : w4.cell? ⟨0, 17, none⟩ = some (.string ⟨#[27, 91, 72]⟩) := (HB.out.1.cell (p := ⟨0, 17, none⟩) (World.block_lt_of_cell? w _ HN)).trans HN
  clear HN
  have hcv := fun W : World => Lib.run_convert_string_bytes (P := Tryd.prog) W 9 32 5 ⟨#[27, 91, 72]⟩ Tryd.underlying9 Tryd.underlying32 Tryd.underlying5
  go_wp2
  go_ret
  have zW : w.heap.size ≤ w4.heap.size := HB.out.2
  have ho := (owC_conv w4 ⟨#[27, 91, 72]⟩ (by decide)).base zW
  have hb := (HB.out.1).trans ((below_conv w4 ⟨#[27, 91, 72]⟩).mono zW)
  exact ⟨_, _, rfl, ho, by simp, hb⟩

set_option maxHeartbeats 4000000 in
theorem implKb_n9  (w : World) (hN : Nams w) :
    Calls Tryd.prog 13 #[.agg #[.int .i64 13, .int .i64 0]] w fun e w' => ∃ o F, e = .returned o ∧ OwC w' w.heap.size o (snZ 9) F ∧ F.Nodup ∧ Below w.heap.size w w' := by
  have hF : kForm 13 0 = 4 := rfl
  have HN := hN.2 9 (by omega)
  have qf : Hid (∀ w', Calls Tryd.prog 21 #[.agg #[.int .i64 13, .int .i64 0]] w' fun e w'' => e = .returned (.int .i64 4) ∧ Below w'.heap.size w' w'') := fun w' => by have := implForm_any 13 0 w'; rw [hF] at this; exact this
  clear hF
  go_enter Tryd.func13, Tryd.ntmps13
  go_wp2_with fail
  obtain ⟨W1, hW1⟩ : ∃ U, U = w.alloc (.cells #[.int .i64 13, .int .i64 0] 25) := ⟨_, rfl⟩
  have b1 : Below w.heap.size w W1 := by rw [hW1]; exact (Below.refl _ _).alloc (Nat.le_refl _) _
  have i1 : W1.heap[w.heap.size]? = some (.cells #[.int .i64 13, .int .i64 0] 25 (0, 0)) := by rw [hW1]; exact heap_alloc_new w _
  have z1 : W1.heap.size = w.heap.size + 1 := by rw [hW1]; simp
  rw [← hW1]
  clear hW1
  refine (qf.out _).mono ?_
  rintro e w4 ⟨rfl, h2⟩
  have hz2 := h2.size
  have zl : w.heap.size < w4.heap.size := by omega
  have i4 := (h2.block _ (by omega)).trans i1
  have y0 : w4.cell? ⟨w.heap.size, 0, none⟩ = some (.int .i64 13) := box_cell i4 rfl
  have y1 : w4.cell? ⟨w.heap.size, 1, none⟩ = some (.int .i64 0) := box_cell i4 rfl
  have HB : Hid (Below w.heap.size w w4 ∧ w.heap.size ≤ w4.heap.size) := ⟨b1.trans (h2.mono b1.size), by omega⟩
  clear h2 b1 hz2 z1 i1 i4
  have HN4 : w4.cell? ⟨0, 19, none⟩ = some (.string ⟨#[27, 91, 70]⟩) := (HB.out.1.cell (p := ⟨0, 19, none⟩) (World.block_lt_of_cell? w _ HN)).trans HN
  clear HN
  have hcv := fun W : World => Lib.run_convert_string_bytes (P := Tryd.prog) W 9 32 5 ⟨#[27, 91, 70]⟩ Tryd.underlying9 Tryd.underlying32 Tryd.underlying5
  go_wp2
  go_ret
  have zW : w.heap.size ≤ w4.heap.size := HB.out.2
  have ho := (owC_conv w4 ⟨#[27, 91, 70]⟩ (by decide)).base zW
  have hb := (HB.out.1).trans ((below_conv w4 ⟨#[27, 91, 70]⟩).mono zW)
  exact ⟨_, _, rfl, ho, by simp, hb⟩

set_option maxHeartbeats 4000000 in
theorem implKb_n10  (w : World) (hN : Nams w) :
    Calls Tryd.prog 13 #[.agg #[.int .i64 14, .int .i64 0]] w fun e w' => ∃ o F, e = .returned o ∧ OwC w' w.heap.size o (snZ 10) F ∧ F.Nodup ∧ Below w.heap.size w w' := by
  have hF : kForm 14 0 = 4 := rfl
  have HN := hN.2 10 (by omega)
  have qf : Hid (∀ w', Calls Tryd.prog 21 #[.agg #[.int .i64 14, .int .i64 0]] w' fun e w'' => e = .returned (.int .i64 4) ∧ Below w'.heap.size w' w'') := fun w' => by have := implForm_any 14 0 w'; rw [hF] at this; exact this
  clear hF
  go_enter Tryd.func13, Tryd.ntmps13
  go_wp2_with fail
  obtain ⟨W1, hW1⟩ : ∃ U, U = w.alloc (.cells #[.int .i64 14, .int .i64 0] 25) := ⟨_, rfl⟩
  have b1 : Below w.heap.size w W1 := by rw [hW1]; exact (Below.refl _ _).alloc (Nat.le_refl _) _
  have i1 : W1.heap[w.heap.size]? = some (.cells #[.int .i64 14, .int .i64 0] 25 (0, 0)) := by rw [hW1]; exact heap_alloc_new w _
  have z1 : W1.heap.size = w.heap.size + 1 := by rw [hW1]; simp
  rw [← hW1]
  clear hW1
  refine (qf.out _).mono ?_
  rintro e w4 ⟨rfl, h2⟩
  have hz2 := h2.size
  have zl : w.heap.size < w4.heap.size := by omega
  have i4 := (h2.block _ (by omega)).trans i1
  have y0 : w4.cell? ⟨w.heap.size, 0, none⟩ = some (.int .i64 14) := box_cell i4 rfl
  have y1 : w4.cell? ⟨w.heap.size, 1, none⟩ = some (.int .i64 0) := box_cell i4 rfl
  have HB : Hid (Below w.heap.size w w4 ∧ w.heap.size ≤ w4.heap.size) := ⟨b1.trans (h2.mono b1.size), by omega⟩
  clear h2 b1 hz2 z1 i1 i4
  have HN4 : w4.cell? ⟨0, 21, none⟩ = some (.string ⟨#[27, 91, 51, 126]⟩) := (HB.out.1.cell (p := ⟨0, 21, none⟩) (World.block_lt_of_cell? w _ HN)).trans HN
  clear HN
  have hcv := fun W : World => Lib.run_convert_string_bytes (P := Tryd.prog) W 9 32 5 ⟨#[27, 91, 51, 126]⟩ Tryd.underlying9 Tryd.underlying32 Tryd.underlying5
  go_wp2
  go_ret
  have zW : w.heap.size ≤ w4.heap.size := HB.out.2
  have ho := (owC_conv w4 ⟨#[27, 91, 51, 126]⟩ (by decide)).base zW
  have hb := (HB.out.1).trans ((below_conv w4 ⟨#[27, 91, 51, 126]⟩).mono zW)
  exact ⟨_, _, rfl, ho, by simp, hb⟩

set_option maxHeartbeats 4000000 in
theorem implKb_n11  (w : World) (hN : Nams w) :
    Calls Tryd.prog 13 #[.agg #[.int .i64 15, .int .i64 0]] w fun e w' => ∃ o F, e = .returned o ∧ OwC w' w.heap.size o (snZ 11) F ∧ F.Nodup ∧ Below w.heap.size w w' := by
  have hF : kForm 15 0 = 4 := rfl
  have HN := hN.2 11 (by omega)
  have qf : Hid (∀ w', Calls Tryd.prog 21 #[.agg #[.int .i64 15, .int .i64 0]] w' fun e w'' => e = .returned (.int .i64 4) ∧ Below w'.heap.size w' w'') := fun w' => by have := implForm_any 15 0 w'; rw [hF] at this; exact this
  clear hF
  go_enter Tryd.func13, Tryd.ntmps13
  go_wp2_with fail
  obtain ⟨W1, hW1⟩ : ∃ U, U = w.alloc (.cells #[.int .i64 15, .int .i64 0] 25) := ⟨_, rfl⟩
  have b1 : Below w.heap.size w W1 := by rw [hW1]; exact (Below.refl _ _).alloc (Nat.le_refl _) _
  have i1 : W1.heap[w.heap.size]? = some (.cells #[.int .i64 15, .int .i64 0] 25 (0, 0)) := by rw [hW1]; exact heap_alloc_new w _
  have z1 : W1.heap.size = w.heap.size + 1 := by rw [hW1]; simp
  rw [← hW1]
  clear hW1
  refine (qf.out _).mono ?_
  rintro e w4 ⟨rfl, h2⟩
  have hz2 := h2.size
  have zl : w.heap.size < w4.heap.size := by omega
  have i4 := (h2.block _ (by omega)).trans i1
  have y0 : w4.cell? ⟨w.heap.size, 0, none⟩ = some (.int .i64 15) := box_cell i4 rfl
  have y1 : w4.cell? ⟨w.heap.size, 1, none⟩ = some (.int .i64 0) := box_cell i4 rfl
  have HB : Hid (Below w.heap.size w w4 ∧ w.heap.size ≤ w4.heap.size) := ⟨b1.trans (h2.mono b1.size), by omega⟩
  clear h2 b1 hz2 z1 i1 i4
  have HN4 : w4.cell? ⟨0, 23, none⟩ = some (.string ⟨#[27, 127]⟩) := (HB.out.1.cell (p := ⟨0, 23, none⟩) (World.block_lt_of_cell? w _ HN)).trans HN
  clear HN
  have hcv := fun W : World => Lib.run_convert_string_bytes (P := Tryd.prog) W 9 32 5 ⟨#[27, 127]⟩ Tryd.underlying9 Tryd.underlying32 Tryd.underlying5
  go_wp2
  go_ret
  have zW : w.heap.size ≤ w4.heap.size := HB.out.2
  have ho := (owC_conv w4 ⟨#[27, 127]⟩ (by decide)).base zW
  have hb := (HB.out.1).trans ((below_conv w4 ⟨#[27, 127]⟩).mono zW)
  exact ⟨_, _, rfl, ho, by simp, hb⟩

set_option maxHeartbeats 4000000 in
theorem implKb_n12  (w : World) (hN : Nams w) :
    Calls Tryd.prog 13 #[.agg #[.int .i64 16, .int .i64 0]] w fun e w' => ∃ o F, e = .returned o ∧ OwC w' w.heap.size o (snZ 12) F ∧ F.Nodup ∧ Below w.heap.size w w' := by
  have hF : kForm 16 0 = 4 := rfl
  have HN := hN.2 12 (by omega)
  have qf : Hid (∀ w', Calls Tryd.prog 21 #[.agg #[.int .i64 16, .int .i64 0]] w' fun e w'' => e = .returned (.int .i64 4) ∧ Below w'.heap.size w' w'') := fun w' => by have := implForm_any 16 0 w'; rw [hF] at this; exact this
  clear hF
  go_enter Tryd.func13, Tryd.ntmps13
  go_wp2_with fail
  obtain ⟨W1, hW1⟩ : ∃ U, U = w.alloc (.cells #[.int .i64 16, .int .i64 0] 25) := ⟨_, rfl⟩
  have b1 : Below w.heap.size w W1 := by rw [hW1]; exact (Below.refl _ _).alloc (Nat.le_refl _) _
  have i1 : W1.heap[w.heap.size]? = some (.cells #[.int .i64 16, .int .i64 0] 25 (0, 0)) := by rw [hW1]; exact heap_alloc_new w _
  have z1 : W1.heap.size = w.heap.size + 1 := by rw [hW1]; simp
  rw [← hW1]
  clear hW1
  refine (qf.out _).mono ?_
  rintro e w4 ⟨rfl, h2⟩
  have hz2 := h2.size
  have zl : w.heap.size < w4.heap.size := by omega
  have i4 := (h2.block _ (by omega)).trans i1
  have y0 : w4.cell? ⟨w.heap.size, 0, none⟩ = some (.int .i64 16) := box_cell i4 rfl
  have y1 : w4.cell? ⟨w.heap.size, 1, none⟩ = some (.int .i64 0) := box_cell i4 rfl
  have HB : Hid (Below w.heap.size w w4 ∧ w.heap.size ≤ w4.heap.size) := ⟨b1.trans (h2.mono b1.size), by omega⟩
  clear h2 b1 hz2 z1 i1 i4
  have HN4 : w4.cell? ⟨0, 25, none⟩ = some (.string ⟨#[0]⟩) := (HB.out.1.cell (p := ⟨0, 25, none⟩) (World.block_lt_of_cell? w _ HN)).trans HN
  clear HN
  have hcv := fun W : World => Lib.run_convert_string_bytes (P := Tryd.prog) W 9 32 5 ⟨#[0]⟩ Tryd.underlying9 Tryd.underlying32 Tryd.underlying5
  go_wp2
  go_ret
  have zW : w.heap.size ≤ w4.heap.size := HB.out.2
  have ho := (owC_conv w4 ⟨#[0]⟩ (by decide)).base zW
  have hb := (HB.out.1).trans ((below_conv w4 ⟨#[0]⟩).mono zW)
  exact ⟨_, _, rfl, ho, by simp, hb⟩

theorem implKb_any (k r : Int) (w : World) (hN : Nams w) :
    Calls Tryd.prog 13 #[.agg #[.int .i64 k, .int .i64 r]] w fun e w' => ∃ o F, e = .returned o ∧ OwC w' w.heap.size o (kby k r) F ∧ F.Nodup ∧ Below w.heap.size w w' := by
  rcases kb_cases k r with ⟨h, e⟩ | ⟨h, e⟩ | ⟨h, e, hr⟩ | ⟨h, e, h1, h2⟩ | ⟨rfl, h⟩
  · rw [e]; exact implKb_0 k r h w
  · rw [e]; exact implKb_1 k r h w
  · rw [e]; clear e; rcases hr with rfl | rfl | rfl | rfl | rfl | rfl | rfl | rfl | rfl | rfl | rfl | rfl | rfl | rfl | rfl | rfl | rfl | rfl | rfl | rfl | rfl | rfl | rfl
    · exact implKb_2_95 k h w
    · exact implKb_2_97 k h w
    · exact implKb_2_98 k h w
    · exact implKb_2_99 k h w
    · exact implKb_2_100 k h w
    · exact implKb_2_101 k h w
    · exact implKb_2_102 k h w
    · exact implKb_2_103 k h w
    · exact implKb_2_107 k h w
    · exact implKb_2_108 k h w
    · exact implKb_2_110 k h w
    · exact implKb_2_111 k h w
    · exact implKb_2_112 k h w
    · exact implKb_2_113 k h w
    · exact implKb_2_114 k h w
    · exact implKb_2_115 k h w
    · exact implKb_2_116 k h w
    · exact implKb_2_117 k h w
    · exact implKb_2_118 k h w
    · exact implKb_2_119 k h w
    · exact implKb_2_120 k h w
    · exact implKb_2_121 k h w
    · exact implKb_2_122 k h w
  · rw [e]; exact implKb_3 k r h h1 h2 w
  · rcases h with rfl | rfl | rfl | rfl | rfl | rfl | rfl | rfl | rfl | rfl | rfl | rfl | rfl
    · exact implKb_n0 w hN
    · exact implKb_n1 w hN
    · exact implKb_n2 w hN
    · exact implKb_n3 w hN
    · exact implKb_n4 w hN
    · exact implKb_n5 w hN
    · exact implKb_n6 w hN
    · exact implKb_n7 w hN
    · exact implKb_n8 w hN
    · exact implKb_n9 w hN
    · exact implKb_n10 w hN
    · exact implKb_n11 w hN
    · exact implKb_n12 w hN

end Go.Proofs.YtndlehogfedfaaaDoor
