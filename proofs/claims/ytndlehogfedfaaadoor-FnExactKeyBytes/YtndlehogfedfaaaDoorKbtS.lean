/-
  KeyBytes of the model: kby. By program (kybgen.py).
-/
import Derived.Test.YtndlehogfedfaaaDoorKbt
namespace Go.Proofs.YtndlehogfedfaaaDoor
open Go.RowKit
set_option linter.unusedVariables false
set_option linter.unusedSimpArgs false
set_option maxRecDepth 100000

set_option maxHeartbeats 4000000 in
theorem specKb_0 (k r : Int) (hF : kok k r = false) (w : World) :
    Calls Tryd.prog 12 #[.agg #[.int .i64 k, .int .i64 r]] w fun e w' => ∃ o F, e = .returned o ∧ OwC w' w.heap.size o [] F ∧ F.Nodup ∧ Below w.heap.size w w' := by
  have qf : Hid (∀ w', Calls Tryd.prog 17 #[.agg #[.int .i64 k, .int .i64 r]] w' fun e w'' => e = .returned (.bool false) ∧ Below w'.heap.size w' w'') := fun w' => by have := specKok_any k r w'; rw [hF] at this; exact this
  clear hF
  go_enter Tryd.func12, Tryd.ntmps12
  go_wp2_with fail
  obtain ⟨W1, hW1⟩ : ∃ U, U = w.alloc (.cells #[.int .i64 k, .int .i64 r] 25) := ⟨_, rfl⟩
  have b1 : Below w.heap.size w W1 := by rw [hW1]; exact (Below.refl _ _).alloc (Nat.le_refl _) _
  have i1 : W1.heap[w.heap.size]? = some (.cells #[.int .i64 k, .int .i64 r] 25 (0, 0)) := by rw [hW1]; exact heap_alloc_new w _
  have z1 : W1.heap.size = w.heap.size + 1 := by rw [hW1]; simp
  rw [← hW1]
  clear hW1
  refine (qf.out _).mono ?_
  rintro e w4 ⟨rfl, h2⟩
  have hz2 := h2.size
  have zl : w.heap.size < w4.heap.size := by omega
  have i4 := (h2.block _ (by omega)).trans i1
  have y0 : w4.cell? ⟨w.heap.size, 0, none⟩ = some (.int .i64 k) := box_cell i4 rfl
  have y1 : w4.cell? ⟨w.heap.size, 1, none⟩ = some (.int .i64 r) := box_cell i4 rfl
  have HB : Hid (Below w.heap.size w w4 ∧ w.heap.size ≤ w4.heap.size) := ⟨b1.trans (h2.mono b1.size), by omega⟩
  clear h2 b1 hz2 z1 i1 i4
  go_wp2
  go_ret
  exact ⟨_, [], rfl, OwC.nil _ _, List.nodup_nil, HB.out.1⟩

set_option maxHeartbeats 4000000 in
theorem specKb_1 (r : Int) (hF : kok 1 r = true) (w : World) :
    Calls Tryd.prog 12 #[.agg #[.int .i64 1, .int .i64 r]] w fun e w' => ∃ o F, e = .returned o ∧ OwC w' w.heap.size o (rb r) F ∧ F.Nodup ∧ Below w.heap.size w w' := by
  have qf : Hid (∀ w', Calls Tryd.prog 17 #[.agg #[.int .i64 1, .int .i64 r]] w' fun e w'' => e = .returned (.bool true) ∧ Below w'.heap.size w' w'') := fun w' => by have := specKok_any 1 r w'; rw [hF] at this; exact this
  clear hF
  go_enter Tryd.func12, Tryd.ntmps12
  go_wp2_with fail
  obtain ⟨W1, hW1⟩ : ∃ U, U = w.alloc (.cells #[.int .i64 1, .int .i64 r] 25) := ⟨_, rfl⟩
  have b1 : Below w.heap.size w W1 := by rw [hW1]; exact (Below.refl _ _).alloc (Nat.le_refl _) _
  have i1 : W1.heap[w.heap.size]? = some (.cells #[.int .i64 1, .int .i64 r] 25 (0, 0)) := by rw [hW1]; exact heap_alloc_new w _
  have z1 : W1.heap.size = w.heap.size + 1 := by rw [hW1]; simp
  rw [← hW1]
  clear hW1
  refine (qf.out _).mono ?_
  rintro e w4 ⟨rfl, h2⟩
  have hz2 := h2.size
  have zl : w.heap.size < w4.heap.size := by omega
  have i4 := (h2.block _ (by omega)).trans i1
  have y0 : w4.cell? ⟨w.heap.size, 0, none⟩ = some (.int .i64 1) := box_cell i4 rfl
  have y1 : w4.cell? ⟨w.heap.size, 1, none⟩ = some (.int .i64 r) := box_cell i4 rfl
  have HB : Hid (Below w.heap.size w w4 ∧ w.heap.size ≤ w4.heap.size) := ⟨b1.trans (h2.mono b1.size), by omega⟩
  clear h2 b1 hz2 z1 i1 i4
  go_wp2_with fail
  refine (specRb_any r _).mono ?_
  rintro e w5 ⟨v, rfl, ho, hb⟩
  obtain ⟨F, ho', hnd⟩ := owC_own ho (fun x hx => by have := rb_byte r x hx; omega)
  have HO : Hid (OwC w5 w.heap.size v (rb r) F ∧ F.Nodup ∧ Below w.heap.size w w5) := ⟨ho'.base HB.out.2, hnd, HB.out.1.trans (hb.mono HB.out.2)⟩
  clear ho ho' hnd hb
  go_wp2
  go_ret
  exact ⟨v, F, rfl, HO.out⟩

set_option maxHeartbeats 4000000 in
theorem specKb_2_95  (w : World) :
    Calls Tryd.prog 12 #[.agg #[.int .i64 2, .int .i64 95]] w fun e w' => ∃ o F, e = .returned o ∧ OwC w' w.heap.size o [31] F ∧ F.Nodup ∧ Below w.heap.size w w' := by
  have hF : kok 2 95 = true := rfl
  have qf : Hid (∀ w', Calls Tryd.prog 17 #[.agg #[.int .i64 2, .int .i64 95]] w' fun e w'' => e = .returned (.bool true) ∧ Below w'.heap.size w' w'') := fun w' => by have := specKok_any 2 95 w'; rw [hF] at this; exact this
  clear hF
  go_enter Tryd.func12, Tryd.ntmps12
  go_wp2_with fail
  obtain ⟨W1, hW1⟩ : ∃ U, U = w.alloc (.cells #[.int .i64 2, .int .i64 95] 25) := ⟨_, rfl⟩
  have b1 : Below w.heap.size w W1 := by rw [hW1]; exact (Below.refl _ _).alloc (Nat.le_refl _) _
  have i1 : W1.heap[w.heap.size]? = some (.cells #[.int .i64 2, .int .i64 95] 25 (0, 0)) := by rw [hW1]; exact heap_alloc_new w _
  have z1 : W1.heap.size = w.heap.size + 1 := by rw [hW1]; simp
  rw [← hW1]
  clear hW1
  refine (qf.out _).mono ?_
  rintro e w4 ⟨rfl, h2⟩
  have hz2 := h2.size
  have zl : w.heap.size < w4.heap.size := by omega
  have i4 := (h2.block _ (by omega)).trans i1
  have y0 : w4.cell? ⟨w.heap.size, 0, none⟩ = some (.int .i64 2) := box_cell i4 rfl
  have y1 : w4.cell? ⟨w.heap.size, 1, none⟩ = some (.int .i64 95) := box_cell i4 rfl
  have HB : Hid (Below w.heap.size w w4 ∧ w.heap.size ≤ w4.heap.size) := ⟨b1.trans (h2.mono b1.size), by omega⟩
  clear h2 b1 hz2 z1 i1 i4
  go_wp2
  go_ret
  have ho : OwC (w4.alloc (.cells #[.int .u8 31] 5)) w.heap.size (.slice (some ⟨w4.heap.size, 0, none⟩) 1 1) [31] [w4.heap.size] := owC_row (d := [31]) HB.out.2 (heap_alloc_new w4 _) (Nat.le_refl _) (by decide) (fun i hi => by (have e0 : i = 0 := by (simp at hi; omega)); subst e0; rfl) (by intro x hx; simp at hx; omega)
  exact ⟨_, _, rfl, ho, by simp, HB.out.1.alloc HB.out.2 _⟩

set_option maxHeartbeats 4000000 in
theorem specKb_2_97  (w : World) :
    Calls Tryd.prog 12 #[.agg #[.int .i64 2, .int .i64 97]] w fun e w' => ∃ o F, e = .returned o ∧ OwC w' w.heap.size o [1] F ∧ F.Nodup ∧ Below w.heap.size w w' := by
  have hF : kok 2 97 = true := rfl
  have qf : Hid (∀ w', Calls Tryd.prog 17 #[.agg #[.int .i64 2, .int .i64 97]] w' fun e w'' => e = .returned (.bool true) ∧ Below w'.heap.size w' w'') := fun w' => by have := specKok_any 2 97 w'; rw [hF] at this; exact this
  clear hF
  go_enter Tryd.func12, Tryd.ntmps12
  go_wp2_with fail
  obtain ⟨W1, hW1⟩ : ∃ U, U = w.alloc (.cells #[.int .i64 2, .int .i64 97] 25) := ⟨_, rfl⟩
  have b1 : Below w.heap.size w W1 := by rw [hW1]; exact (Below.refl _ _).alloc (Nat.le_refl _) _
  have i1 : W1.heap[w.heap.size]? = some (.cells #[.int .i64 2, .int .i64 97] 25 (0, 0)) := by rw [hW1]; exact heap_alloc_new w _
  have z1 : W1.heap.size = w.heap.size + 1 := by rw [hW1]; simp
  rw [← hW1]
  clear hW1
  refine (qf.out _).mono ?_
  rintro e w4 ⟨rfl, h2⟩
  have hz2 := h2.size
  have zl : w.heap.size < w4.heap.size := by omega
  have i4 := (h2.block _ (by omega)).trans i1
  have y0 : w4.cell? ⟨w.heap.size, 0, none⟩ = some (.int .i64 2) := box_cell i4 rfl
  have y1 : w4.cell? ⟨w.heap.size, 1, none⟩ = some (.int .i64 97) := box_cell i4 rfl
  have HB : Hid (Below w.heap.size w w4 ∧ w.heap.size ≤ w4.heap.size) := ⟨b1.trans (h2.mono b1.size), by omega⟩
  clear h2 b1 hz2 z1 i1 i4
  go_wp2
  go_ret
  have ho : OwC (w4.alloc (.cells #[.int .u8 1] 5)) w.heap.size (.slice (some ⟨w4.heap.size, 0, none⟩) 1 1) [1] [w4.heap.size] := owC_row (d := [1]) HB.out.2 (heap_alloc_new w4 _) (Nat.le_refl _) (by decide) (fun i hi => by (have e0 : i = 0 := by (simp at hi; omega)); subst e0; rfl) (by intro x hx; simp at hx; omega)
  exact ⟨_, _, rfl, ho, by simp, HB.out.1.alloc HB.out.2 _⟩

set_option maxHeartbeats 4000000 in
theorem specKb_2_98  (w : World) :
    Calls Tryd.prog 12 #[.agg #[.int .i64 2, .int .i64 98]] w fun e w' => ∃ o F, e = .returned o ∧ OwC w' w.heap.size o [2] F ∧ F.Nodup ∧ Below w.heap.size w w' := by
  have hF : kok 2 98 = true := rfl
  have qf : Hid (∀ w', Calls Tryd.prog 17 #[.agg #[.int .i64 2, .int .i64 98]] w' fun e w'' => e = .returned (.bool true) ∧ Below w'.heap.size w' w'') := fun w' => by have := specKok_any 2 98 w'; rw [hF] at this; exact this
  clear hF
  go_enter Tryd.func12, Tryd.ntmps12
  go_wp2_with fail
  obtain ⟨W1, hW1⟩ : ∃ U, U = w.alloc (.cells #[.int .i64 2, .int .i64 98] 25) := ⟨_, rfl⟩
  have b1 : Below w.heap.size w W1 := by rw [hW1]; exact (Below.refl _ _).alloc (Nat.le_refl _) _
  have i1 : W1.heap[w.heap.size]? = some (.cells #[.int .i64 2, .int .i64 98] 25 (0, 0)) := by rw [hW1]; exact heap_alloc_new w _
  have z1 : W1.heap.size = w.heap.size + 1 := by rw [hW1]; simp
  rw [← hW1]
  clear hW1
  refine (qf.out _).mono ?_
  rintro e w4 ⟨rfl, h2⟩
  have hz2 := h2.size
  have zl : w.heap.size < w4.heap.size := by omega
  have i4 := (h2.block _ (by omega)).trans i1
  have y0 : w4.cell? ⟨w.heap.size, 0, none⟩ = some (.int .i64 2) := box_cell i4 rfl
  have y1 : w4.cell? ⟨w.heap.size, 1, none⟩ = some (.int .i64 98) := box_cell i4 rfl
  have HB : Hid (Below w.heap.size w w4 ∧ w.heap.size ≤ w4.heap.size) := ⟨b1.trans (h2.mono b1.size), by omega⟩
  clear h2 b1 hz2 z1 i1 i4
  go_wp2
  go_ret
  have ho : OwC (w4.alloc (.cells #[.int .u8 2] 5)) w.heap.size (.slice (some ⟨w4.heap.size, 0, none⟩) 1 1) [2] [w4.heap.size] := owC_row (d := [2]) HB.out.2 (heap_alloc_new w4 _) (Nat.le_refl _) (by decide) (fun i hi => by (have e0 : i = 0 := by (simp at hi; omega)); subst e0; rfl) (by intro x hx; simp at hx; omega)
  exact ⟨_, _, rfl, ho, by simp, HB.out.1.alloc HB.out.2 _⟩

set_option maxHeartbeats 4000000 in
theorem specKb_2_99  (w : World) :
    Calls Tryd.prog 12 #[.agg #[.int .i64 2, .int .i64 99]] w fun e w' => ∃ o F, e = .returned o ∧ OwC w' w.heap.size o [3] F ∧ F.Nodup ∧ Below w.heap.size w w' := by
  have hF : kok 2 99 = true := rfl
  have qf : Hid (∀ w', Calls Tryd.prog 17 #[.agg #[.int .i64 2, .int .i64 99]] w' fun e w'' => e = .returned (.bool true) ∧ Below w'.heap.size w' w'') := fun w' => by have := specKok_any 2 99 w'; rw [hF] at this; exact this
  clear hF
  go_enter Tryd.func12, Tryd.ntmps12
  go_wp2_with fail
  obtain ⟨W1, hW1⟩ : ∃ U, U = w.alloc (.cells #[.int .i64 2, .int .i64 99] 25) := ⟨_, rfl⟩
  have b1 : Below w.heap.size w W1 := by rw [hW1]; exact (Below.refl _ _).alloc (Nat.le_refl _) _
  have i1 : W1.heap[w.heap.size]? = some (.cells #[.int .i64 2, .int .i64 99] 25 (0, 0)) := by rw [hW1]; exact heap_alloc_new w _
  have z1 : W1.heap.size = w.heap.size + 1 := by rw [hW1]; simp
  rw [← hW1]
  clear hW1
  refine (qf.out _).mono ?_
  rintro e w4 ⟨rfl, h2⟩
  have hz2 := h2.size
  have zl : w.heap.size < w4.heap.size := by omega
  have i4 := (h2.block _ (by omega)).trans i1
  have y0 : w4.cell? ⟨w.heap.size, 0, none⟩ = some (.int .i64 2) := box_cell i4 rfl
  have y1 : w4.cell? ⟨w.heap.size, 1, none⟩ = some (.int .i64 99) := box_cell i4 rfl
  have HB : Hid (Below w.heap.size w w4 ∧ w.heap.size ≤ w4.heap.size) := ⟨b1.trans (h2.mono b1.size), by omega⟩
  clear h2 b1 hz2 z1 i1 i4
  go_wp2
  go_ret
  have ho : OwC (w4.alloc (.cells #[.int .u8 3] 5)) w.heap.size (.slice (some ⟨w4.heap.size, 0, none⟩) 1 1) [3] [w4.heap.size] := owC_row (d := [3]) HB.out.2 (heap_alloc_new w4 _) (Nat.le_refl _) (by decide) (fun i hi => by (have e0 : i = 0 := by (simp at hi; omega)); subst e0; rfl) (by intro x hx; simp at hx; omega)
  exact ⟨_, _, rfl, ho, by simp, HB.out.1.alloc HB.out.2 _⟩

set_option maxHeartbeats 4000000 in
theorem specKb_2_100  (w : World) :
    Calls Tryd.prog 12 #[.agg #[.int .i64 2, .int .i64 100]] w fun e w' => ∃ o F, e = .returned o ∧ OwC w' w.heap.size o [4] F ∧ F.Nodup ∧ Below w.heap.size w w' := by
  have hF : kok 2 100 = true := rfl
  have qf : Hid (∀ w', Calls Tryd.prog 17 #[.agg #[.int .i64 2, .int .i64 100]] w' fun e w'' => e = .returned (.bool true) ∧ Below w'.heap.size w' w'') := fun w' => by have := specKok_any 2 100 w'; rw [hF] at this; exact this
  clear hF
  go_enter Tryd.func12, Tryd.ntmps12
  go_wp2_with fail
  obtain ⟨W1, hW1⟩ : ∃ U, U = w.alloc (.cells #[.int .i64 2, .int .i64 100] 25) := ⟨_, rfl⟩
  have b1 : Below w.heap.size w W1 := by rw [hW1]; exact (Below.refl _ _).alloc (Nat.le_refl _) _
  have i1 : W1.heap[w.heap.size]? = some (.cells #[.int .i64 2, .int .i64 100] 25 (0, 0)) := by rw [hW1]; exact heap_alloc_new w _
  have z1 : W1.heap.size = w.heap.size + 1 := by rw [hW1]; simp
  rw [← hW1]
  clear hW1
  refine (qf.out _).mono ?_
  rintro e w4 ⟨rfl, h2⟩
  have hz2 := h2.size
  have zl : w.heap.size < w4.heap.size := by omega
  have i4 := (h2.block _ (by omega)).trans i1
  have y0 : w4.cell? ⟨w.heap.size, 0, none⟩ = some (.int .i64 2) := box_cell i4 rfl
  have y1 : w4.cell? ⟨w.heap.size, 1, none⟩ = some (.int .i64 100) := box_cell i4 rfl
  have HB : Hid (Below w.heap.size w w4 ∧ w.heap.size ≤ w4.heap.size) := ⟨b1.trans (h2.mono b1.size), by omega⟩
  clear h2 b1 hz2 z1 i1 i4
  go_wp2
  go_ret
  have ho : OwC (w4.alloc (.cells #[.int .u8 4] 5)) w.heap.size (.slice (some ⟨w4.heap.size, 0, none⟩) 1 1) [4] [w4.heap.size] := owC_row (d := [4]) HB.out.2 (heap_alloc_new w4 _) (Nat.le_refl _) (by decide) (fun i hi => by (have e0 : i = 0 := by (simp at hi; omega)); subst e0; rfl) (by intro x hx; simp at hx; omega)
  exact ⟨_, _, rfl, ho, by simp, HB.out.1.alloc HB.out.2 _⟩

set_option maxHeartbeats 4000000 in
theorem specKb_2_101  (w : World) :
    Calls Tryd.prog 12 #[.agg #[.int .i64 2, .int .i64 101]] w fun e w' => ∃ o F, e = .returned o ∧ OwC w' w.heap.size o [5] F ∧ F.Nodup ∧ Below w.heap.size w w' := by
  have hF : kok 2 101 = true := rfl
  have qf : Hid (∀ w', Calls Tryd.prog 17 #[.agg #[.int .i64 2, .int .i64 101]] w' fun e w'' => e = .returned (.bool true) ∧ Below w'.heap.size w' w'') := fun w' => by have := specKok_any 2 101 w'; rw [hF] at this; exact this
  clear hF
  go_enter Tryd.func12, Tryd.ntmps12
  go_wp2_with fail
  obtain ⟨W1, hW1⟩ : ∃ U, U = w.alloc (.cells #[.int .i64 2, .int .i64 101] 25) := ⟨_, rfl⟩
  have b1 : Below w.heap.size w W1 := by rw [hW1]; exact (Below.refl _ _).alloc (Nat.le_refl _) _
  have i1 : W1.heap[w.heap.size]? = some (.cells #[.int .i64 2, .int .i64 101] 25 (0, 0)) := by rw [hW1]; exact heap_alloc_new w _
  have z1 : W1.heap.size = w.heap.size + 1 := by rw [hW1]; simp
  rw [← hW1]
  clear hW1
  refine (qf.out _).mono ?_
  rintro e w4 ⟨rfl, h2⟩
  have hz2 := h2.size
  have zl : w.heap.size < w4.heap.size := by omega
  have i4 := (h2.block _ (by omega)).trans i1
  have y0 : w4.cell? ⟨w.heap.size, 0, none⟩ = some (.int .i64 2) := box_cell i4 rfl
  have y1 : w4.cell? ⟨w.heap.size, 1, none⟩ = some (.int .i64 101) := box_cell i4 rfl
  have HB : Hid (Below w.heap.size w w4 ∧ w.heap.size ≤ w4.heap.size) := ⟨b1.trans (h2.mono b1.size), by omega⟩
  clear h2 b1 hz2 z1 i1 i4
  go_wp2
  go_ret
  have ho : OwC (w4.alloc (.cells #[.int .u8 5] 5)) w.heap.size (.slice (some ⟨w4.heap.size, 0, none⟩) 1 1) [5] [w4.heap.size] := owC_row (d := [5]) HB.out.2 (heap_alloc_new w4 _) (Nat.le_refl _) (by decide) (fun i hi => by (have e0 : i = 0 := by (simp at hi; omega)); subst e0; rfl) (by intro x hx; simp at hx; omega)
  exact ⟨_, _, rfl, ho, by simp, HB.out.1.alloc HB.out.2 _⟩

set_option maxHeartbeats 4000000 in
theorem specKb_2_102  (w : World) :
    Calls Tryd.prog 12 #[.agg #[.int .i64 2, .int .i64 102]] w fun e w' => ∃ o F, e = .returned o ∧ OwC w' w.heap.size o [6] F ∧ F.Nodup ∧ Below w.heap.size w w' := by
  have hF : kok 2 102 = true := rfl
  have qf : Hid (∀ w', Calls Tryd.prog 17 #[.agg #[.int .i64 2, .int .i64 102]] w' fun e w'' => e = .returned (.bool true) ∧ Below w'.heap.size w' w'') := fun w' => by have := specKok_any 2 102 w'; rw [hF] at this; exact this
  clear hF
  go_enter Tryd.func12, Tryd.ntmps12
  go_wp2_with fail
  obtain ⟨W1, hW1⟩ : ∃ U, U = w.alloc (.cells #[.int .i64 2, .int .i64 102] 25) := ⟨_, rfl⟩
  have b1 : Below w.heap.size w W1 := by rw [hW1]; exact (Below.refl _ _).alloc (Nat.le_refl _) _
  have i1 : W1.heap[w.heap.size]? = some (.cells #[.int .i64 2, .int .i64 102] 25 (0, 0)) := by rw [hW1]; exact heap_alloc_new w _
  have z1 : W1.heap.size = w.heap.size + 1 := by rw [hW1]; simp
  rw [← hW1]
  clear hW1
  refine (qf.out _).mono ?_
  rintro e w4 ⟨rfl, h2⟩
  have hz2 := h2.size
  have zl : w.heap.size < w4.heap.size := by omega
  have i4 := (h2.block _ (by omega)).trans i1
  have y0 : w4.cell? ⟨w.heap.size, 0, none⟩ = some (.int .i64 2) := box_cell i4 rfl
  have y1 : w4.cell? ⟨w.heap.size, 1, none⟩ = some (.int .i64 102) := box_cell i4 rfl
  have HB : Hid (Below w.heap.size w w4 ∧ w.heap.size ≤ w4.heap.size) := ⟨b1.trans (h2.mono b1.size), by omega⟩
  clear h2 b1 hz2 z1 i1 i4
  go_wp2
  go_ret
  have ho : OwC (w4.alloc (.cells #[.int .u8 6] 5)) w.heap.size (.slice (some ⟨w4.heap.size, 0, none⟩) 1 1) [6] [w4.heap.size] := owC_row (d := [6]) HB.out.2 (heap_alloc_new w4 _) (Nat.le_refl _) (by decide) (fun i hi => by (have e0 : i = 0 := by (simp at hi; omega)); subst e0; rfl) (by intro x hx; simp at hx; omega)
  exact ⟨_, _, rfl, ho, by simp, HB.out.1.alloc HB.out.2 _⟩

set_option maxHeartbeats 4000000 in
theorem specKb_2_103  (w : World) :
    Calls Tryd.prog 12 #[.agg #[.int .i64 2, .int .i64 103]] w fun e w' => ∃ o F, e = .returned o ∧ OwC w' w.heap.size o [7] F ∧ F.Nodup ∧ Below w.heap.size w w' := by
  have hF : kok 2 103 = true := rfl
  have qf : Hid (∀ w', Calls Tryd.prog 17 #[.agg #[.int .i64 2, .int .i64 103]] w' fun e w'' => e = .returned (.bool true) ∧ Below w'.heap.size w' w'') := fun w' => by have := specKok_any 2 103 w'; rw [hF] at this; exact this
  clear hF
  go_enter Tryd.func12, Tryd.ntmps12
  go_wp2_with fail
  obtain ⟨W1, hW1⟩ : ∃ U, U = w.alloc (.cells #[.int .i64 2, .int .i64 103] 25) := ⟨_, rfl⟩
  have b1 : Below w.heap.size w W1 := by rw [hW1]; exact (Below.refl _ _).alloc (Nat.le_refl _) _
  have i1 : W1.heap[w.heap.size]? = some (.cells #[.int .i64 2, .int .i64 103] 25 (0, 0)) := by rw [hW1]; exact heap_alloc_new w _
  have z1 : W1.heap.size = w.heap.size + 1 := by rw [hW1]; simp
  rw [← hW1]
  clear hW1
  refine (qf.out _).mono ?_
  rintro e w4 ⟨rfl, h2⟩
  have hz2 := h2.size
  have zl : w.heap.size < w4.heap.size := by omega
  have i4 := (h2.block _ (by omega)).trans i1
  have y0 : w4.cell? ⟨w.heap.size, 0, none⟩ = some (.int .i64 2) := box_cell i4 rfl
  have y1 : w4.cell? ⟨w.heap.size, 1, none⟩ = some (.int .i64 103) := box_cell i4 rfl
  have HB : Hid (Below w.heap.size w w4 ∧ w.heap.size ≤ w4.heap.size) := ⟨b1.trans (h2.mono b1.size), by omega⟩
  clear h2 b1 hz2 z1 i1 i4
  go_wp2
  go_ret
  have ho : OwC (w4.alloc (.cells #[.int .u8 7] 5)) w.heap.size (.slice (some ⟨w4.heap.size, 0, none⟩) 1 1) [7] [w4.heap.size] := owC_row (d := [7]) HB.out.2 (heap_alloc_new w4 _) (Nat.le_refl _) (by decide) (fun i hi => by (have e0 : i = 0 := by (simp at hi; omega)); subst e0; rfl) (by intro x hx; simp at hx; omega)
  exact ⟨_, _, rfl, ho, by simp, HB.out.1.alloc HB.out.2 _⟩

set_option maxHeartbeats 4000000 in
theorem specKb_2_107  (w : World) :
    Calls Tryd.prog 12 #[.agg #[.int .i64 2, .int .i64 107]] w fun e w' => ∃ o F, e = .returned o ∧ OwC w' w.heap.size o [11] F ∧ F.Nodup ∧ Below w.heap.size w w' := by
  have hF : kok 2 107 = true := rfl
  have qf : Hid (∀ w', Calls Tryd.prog 17 #[.agg #[.int .i64 2, .int .i64 107]] w' fun e w'' => e = .returned (.bool true) ∧ Below w'.heap.size w' w'') := fun w' => by have := specKok_any 2 107 w'; rw [hF] at this; exact this
  clear hF
  go_enter Tryd.func12, Tryd.ntmps12
  go_wp2_with fail
  obtain ⟨W1, hW1⟩ : ∃ U, U = w.alloc (.cells #[.int .i64 2, .int .i64 107] 25) := ⟨_, rfl⟩
  have b1 : Below w.heap.size w W1 := by rw [hW1]; exact (Below.refl _ _).alloc (Nat.le_refl _) _
  have i1 : W1.heap[w.heap.size]? = some (.cells #[.int .i64 2, .int .i64 107] 25 (0, 0)) := by rw [hW1]; exact heap_alloc_new w _
  have z1 : W1.heap.size = w.heap.size + 1 := by rw [hW1]; simp
  rw [← hW1]
  clear hW1
  refine (qf.out _).mono ?_
  rintro e w4 ⟨rfl, h2⟩
  have hz2 := h2.size
  have zl : w.heap.size < w4.heap.size := by omega
  have i4 := (h2.block _ (by omega)).trans i1
  have y0 : w4.cell? ⟨w.heap.size, 0, none⟩ = some (.int .i64 2) := box_cell i4 rfl
  have y1 : w4.cell? ⟨w.heap.size, 1, none⟩ = some (.int .i64 107) := box_cell i4 rfl
  have HB : Hid (Below w.heap.size w w4 ∧ w.heap.size ≤ w4.heap.size) := ⟨b1.trans (h2.mono b1.size), by omega⟩
  clear h2 b1 hz2 z1 i1 i4
  go_wp2
  go_ret
  have ho : OwC (w4.alloc (.cells #[.int .u8 11] 5)) w.heap.size (.slice (some ⟨w4.heap.size, 0, none⟩) 1 1) [11] [w4.heap.size] := owC_row (d := [11]) HB.out.2 (heap_alloc_new w4 _) (Nat.le_refl _) (by decide) (fun i hi => by (have e0 : i = 0 := by (simp at hi; omega)); subst e0; rfl) (by intro x hx; simp at hx; omega)
  exact ⟨_, _, rfl, ho, by simp, HB.out.1.alloc HB.out.2 _⟩

set_option maxHeartbeats 4000000 in
theorem specKb_2_108  (w : World) :
    Calls Tryd.prog 12 #[.agg #[.int .i64 2, .int .i64 108]] w fun e w' => ∃ o F, e = .returned o ∧ OwC w' w.heap.size o [12] F ∧ F.Nodup ∧ Below w.heap.size w w' := by
  have hF : kok 2 108 = true := rfl
  have qf : Hid (∀ w', Calls Tryd.prog 17 #[.agg #[.int .i64 2, .int .i64 108]] w' fun e w'' => e = .returned (.bool true) ∧ Below w'.heap.size w' w'') := fun w' => by have := specKok_any 2 108 w'; rw [hF] at this; exact this
  clear hF
  go_enter Tryd.func12, Tryd.ntmps12
  go_wp2_with fail
  obtain ⟨W1, hW1⟩ : ∃ U, U = w.alloc (.cells #[.int .i64 2, .int .i64 108] 25) := ⟨_, rfl⟩
  have b1 : Below w.heap.size w W1 := by rw [hW1]; exact (Below.refl _ _).alloc (Nat.le_refl _) _
  have i1 : W1.heap[w.heap.size]? = some (.cells #[.int .i64 2, .int .i64 108] 25 (0, 0)) := by rw [hW1]; exact heap_alloc_new w _
  have z1 : W1.heap.size = w.heap.size + 1 := by rw [hW1]; simp
  rw [← hW1]
  clear hW1
  refine (qf.out _).mono ?_
  rintro e w4 ⟨rfl, h2⟩
  have hz2 := h2.size
  have zl : w.heap.size < w4.heap.size := by omega
  have i4 := (h2.block _ (by omega)).trans i1
  have y0 : w4.cell? ⟨w.heap.size, 0, none⟩ = some (.int .i64 2) := box_cell i4 rfl
  have y1 : w4.cell? ⟨w.heap.size, 1, none⟩ = some (.int .i64 108) := box_cell i4 rfl
  have HB : Hid (Below w.heap.size w w4 ∧ w.heap.size ≤ w4.heap.size) := ⟨b1.trans (h2.mono b1.size), by omega⟩
  clear h2 b1 hz2 z1 i1 i4
  go_wp2
  go_ret
  have ho : OwC (w4.alloc (.cells #[.int .u8 12] 5)) w.heap.size (.slice (some ⟨w4.heap.size, 0, none⟩) 1 1) [12] [w4.heap.size] := owC_row (d := [12]) HB.out.2 (heap_alloc_new w4 _) (Nat.le_refl _) (by decide) (fun i hi => by (have e0 : i = 0 := by (simp at hi; omega)); subst e0; rfl) (by intro x hx; simp at hx; omega)
  exact ⟨_, _, rfl, ho, by simp, HB.out.1.alloc HB.out.2 _⟩

set_option maxHeartbeats 4000000 in
theorem specKb_2_110  (w : World) :
    Calls Tryd.prog 12 #[.agg #[.int .i64 2, .int .i64 110]] w fun e w' => ∃ o F, e = .returned o ∧ OwC w' w.heap.size o [14] F ∧ F.Nodup ∧ Below w.heap.size w w' := by
  have hF : kok 2 110 = true := rfl
  have qf : Hid (∀ w', Calls Tryd.prog 17 #[.agg #[.int .i64 2, .int .i64 110]] w' fun e w'' => e = .returned (.bool true) ∧ Below w'.heap.size w' w'') := fun w' => by have := specKok_any 2 110 w'; rw [hF] at this; exact this
  clear hF
  go_enter Tryd.func12, Tryd.ntmps12
  go_wp2_with fail
  obtain ⟨W1, hW1⟩ : ∃ U, U = w.alloc (.cells #[.int .i64 2, .int .i64 110] 25) := ⟨_, rfl⟩
  have b1 : Below w.heap.size w W1 := by rw [hW1]; exact (Below.refl _ _).alloc (Nat.le_refl _) _
  have i1 : W1.heap[w.heap.size]? = some (.cells #[.int .i64 2, .int .i64 110] 25 (0, 0)) := by rw [hW1]; exact heap_alloc_new w _
  have z1 : W1.heap.size = w.heap.size + 1 := by rw [hW1]; simp
  rw [← hW1]
  clear hW1
  refine (qf.out _).mono ?_
  rintro e w4 ⟨rfl, h2⟩
  have hz2 := h2.size
  have zl : w.heap.size < w4.heap.size := by omega
  have i4 := (h2.block _ (by omega)).trans i1
  have y0 : w4.cell? ⟨w.heap.size, 0, none⟩ = some (.int .i64 2) := box_cell i4 rfl
  have y1 : w4.cell? ⟨w.heap.size, 1, none⟩ = some (.int .i64 110) := box_cell i4 rfl
  have HB : Hid (Below w.heap.size w w4 ∧ w.heap.size ≤ w4.heap.size) := ⟨b1.trans (h2.mono b1.size), by omega⟩
  clear h2 b1 hz2 z1 i1 i4
  go_wp2
  go_ret
  have ho : OwC (w4.alloc (.cells #[.int .u8 14] 5)) w.heap.size (.slice (some ⟨w4.heap.size, 0, none⟩) 1 1) [14] [w4.heap.size] := owC_row (d := [14]) HB.out.2 (heap_alloc_new w4 _) (Nat.le_refl _) (by decide) (fun i hi => by (have e0 : i = 0 := by (simp at hi; omega)); subst e0; rfl) (by intro x hx; simp at hx; omega)
  exact ⟨_, _, rfl, ho, by simp, HB.out.1.alloc HB.out.2 _⟩

set_option maxHeartbeats 4000000 in
theorem specKb_2_111  (w : World) :
    Calls Tryd.prog 12 #[.agg #[.int .i64 2, .int .i64 111]] w fun e w' => ∃ o F, e = .returned o ∧ OwC w' w.heap.size o [15] F ∧ F.Nodup ∧ Below w.heap.size w w' := by
  have hF : kok 2 111 = true := rfl
  have qf : Hid (∀ w', Calls Tryd.prog 17 #[.agg #[.int .i64 2, .int .i64 111]] w' fun e w'' => e = .returned (.bool true) ∧ Below w'.heap.size w' w'') := fun w' => by have := specKok_any 2 111 w'; rw [hF] at this; exact this
  clear hF
  go_enter Tryd.func12, Tryd.ntmps12
  go_wp2_with fail
  obtain ⟨W1, hW1⟩ : ∃ U, U = w.alloc (.cells #[.int .i64 2, .int .i64 111] 25) := ⟨_, rfl⟩
  have b1 : Below w.heap.size w W1 := by rw [hW1]; exact (Below.refl _ _).alloc (Nat.le_refl _) _
  have i1 : W1.heap[w.heap.size]? = some (.cells #[.int .i64 2, .int .i64 111] 25 (0, 0)) := by rw [hW1]; exact heap_alloc_new w _
  have z1 : W1.heap.size = w.heap.size + 1 := by rw [hW1]; simp
  rw [← hW1]
  clear hW1
  refine (qf.out _).mono ?_
  rintro e w4 ⟨rfl, h2⟩
  have hz2 := h2.size
  have zl : w.heap.size < w4.heap.size := by omega
  have i4 := (h2.block _ (by omega)).trans i1
  have y0 : w4.cell? ⟨w.heap.size, 0, none⟩ = some (.int .i64 2) := box_cell i4 rfl
  have y1 : w4.cell? ⟨w.heap.size, 1, none⟩ = some (.int .i64 111) := box_cell i4 rfl
  have HB : Hid (Below w.heap.size w w4 ∧ w.heap.size ≤ w4.heap.size) := ⟨b1.trans (h2.mono b1.size), by omega⟩
  clear h2 b1 hz2 z1 i1 i4
  go_wp2
  go_ret
  have ho : OwC (w4.alloc (.cells #[.int .u8 15] 5)) w.heap.size (.slice (some ⟨w4.heap.size, 0, none⟩) 1 1) [15] [w4.heap.size] := owC_row (d := [15]) HB.out.2 (heap_alloc_new w4 _) (Nat.le_refl _) (by decide) (fun i hi => by (have e0 : i = 0 := by (simp at hi; omega)); subst e0; rfl) (by intro x hx; simp at hx; omega)
  exact ⟨_, _, rfl, ho, by simp, HB.out.1.alloc HB.out.2 _⟩

set_option maxHeartbeats 4000000 in
theorem specKb_2_112  (w : World) :
    Calls Tryd.prog 12 #[.agg #[.int .i64 2, .int .i64 112]] w fun e w' => ∃ o F, e = .returned o ∧ OwC w' w.heap.size o [16] F ∧ F.Nodup ∧ Below w.heap.size w w' := by
  have hF : kok 2 112 = true := rfl
  have qf : Hid (∀ w', Calls Tryd.prog 17 #[.agg #[.int .i64 2, .int .i64 112]] w' fun e w'' => e = .returned (.bool true) ∧ Below w'.heap.size w' w'') := fun w' => by have := specKok_any 2 112 w'; rw [hF] at this; exact this
  clear hF
  go_enter Tryd.func12, Tryd.ntmps12
  go_wp2_with fail
  obtain ⟨W1, hW1⟩ : ∃ U, U = w.alloc (.cells #[.int .i64 2, .int .i64 112] 25) := ⟨_, rfl⟩
  have b1 : Below w.heap.size w W1 := by rw [hW1]; exact (Below.refl _ _).alloc (Nat.le_refl _) _
  have i1 : W1.heap[w.heap.size]? = some (.cells #[.int .i64 2, .int .i64 112] 25 (0, 0)) := by rw [hW1]; exact heap_alloc_new w _
  have z1 : W1.heap.size = w.heap.size + 1 := by rw [hW1]; simp
  rw [← hW1]
  clear hW1
  refine (qf.out _).mono ?_
  rintro e w4 ⟨rfl, h2⟩
  have hz2 := h2.size
  have zl : w.heap.size < w4.heap.size := by omega
  have i4 := (h2.block _ (by omega)).trans i1
  have y0 : w4.cell? ⟨w.heap.size, 0, none⟩ = some (.int .i64 2) := box_cell i4 rfl
  have y1 : w4.cell? ⟨w.heap.size, 1, none⟩ = some (.int .i64 112) := box_cell i4 rfl
  have HB : Hid (Below w.heap.size w w4 ∧ w.heap.size ≤ w4.heap.size) := ⟨b1.trans (h2.mono b1.size), by omega⟩
  clear h2 b1 hz2 z1 i1 i4
  go_wp2
  go_ret
  have ho : OwC (w4.alloc (.cells #[.int .u8 16] 5)) w.heap.size (.slice (some ⟨w4.heap.size, 0, none⟩) 1 1) [16] [w4.heap.size] := owC_row (d := [16]) HB.out.2 (heap_alloc_new w4 _) (Nat.le_refl _) (by decide) (fun i hi => by (have e0 : i = 0 := by (simp at hi; omega)); subst e0; rfl) (by intro x hx; simp at hx; omega)
  exact ⟨_, _, rfl, ho, by simp, HB.out.1.alloc HB.out.2 _⟩

set_option maxHeartbeats 4000000 in
theorem specKb_2_113  (w : World) :
    Calls Tryd.prog 12 #[.agg #[.int .i64 2, .int .i64 113]] w fun e w' => ∃ o F, e = .returned o ∧ OwC w' w.heap.size o [17] F ∧ F.Nodup ∧ Below w.heap.size w w' := by
  have hF : kok 2 113 = true := rfl
  have qf : Hid (∀ w', Calls Tryd.prog 17 #[.agg #[.int .i64 2, .int .i64 113]] w' fun e w'' => e = .returned (.bool true) ∧ Below w'.heap.size w' w'') := fun w' => by have := specKok_any 2 113 w'; rw [hF] at this; exact this
  clear hF
  go_enter Tryd.func12, Tryd.ntmps12
  go_wp2_with fail
  obtain ⟨W1, hW1⟩ : ∃ U, U = w.alloc (.cells #[.int .i64 2, .int .i64 113] 25) := ⟨_, rfl⟩
  have b1 : Below w.heap.size w W1 := by rw [hW1]; exact (Below.refl _ _).alloc (Nat.le_refl _) _
  have i1 : W1.heap[w.heap.size]? = some (.cells #[.int .i64 2, .int .i64 113] 25 (0, 0)) := by rw [hW1]; exact heap_alloc_new w _
  have z1 : W1.heap.size = w.heap.size + 1 := by rw [hW1]; simp
  rw [← hW1]
  clear hW1
  refine (qf.out _).mono ?_
  rintro e w4 ⟨rfl, h2⟩
  have hz2 := h2.size
  have zl : w.heap.size < w4.heap.size := by omega
  have i4 := (h2.block _ (by omega)).trans i1
  have y0 : w4.cell? ⟨w.heap.size, 0, none⟩ = some (.int .i64 2) := box_cell i4 rfl
  have y1 : w4.cell? ⟨w.heap.size, 1, none⟩ = some (.int .i64 113) := box_cell i4 rfl
  have HB : Hid (Below w.heap.size w w4 ∧ w.heap.size ≤ w4.heap.size) := ⟨b1.trans (h2.mono b1.size), by omega⟩
  clear h2 b1 hz2 z1 i1 i4
  go_wp2
  go_ret
  have ho : OwC (w4.alloc (.cells #[.int .u8 17] 5)) w.heap.size (.slice (some ⟨w4.heap.size, 0, none⟩) 1 1) [17] [w4.heap.size] := owC_row (d := [17]) HB.out.2 (heap_alloc_new w4 _) (Nat.le_refl _) (by decide) (fun i hi => by (have e0 : i = 0 := by (simp at hi; omega)); subst e0; rfl) (by intro x hx; simp at hx; omega)
  exact ⟨_, _, rfl, ho, by simp, HB.out.1.alloc HB.out.2 _⟩

set_option maxHeartbeats 4000000 in
theorem specKb_2_114  (w : World) :
    Calls Tryd.prog 12 #[.agg #[.int .i64 2, .int .i64 114]] w fun e w' => ∃ o F, e = .returned o ∧ OwC w' w.heap.size o [18] F ∧ F.Nodup ∧ Below w.heap.size w w' := by
  have hF : kok 2 114 = true := rfl
  have qf : Hid (∀ w', Calls Tryd.prog 17 #[.agg #[.int .i64 2, .int .i64 114]] w' fun e w'' => e = .returned (.bool true) ∧ Below w'.heap.size w' w'') := fun w' => by have := specKok_any 2 114 w'; rw [hF] at this; exact this
  clear hF
  go_enter Tryd.func12, Tryd.ntmps12
  go_wp2_with fail
  obtain ⟨W1, hW1⟩ : ∃ U, U = w.alloc (.cells #[.int .i64 2, .int .i64 114] 25) := ⟨_, rfl⟩
  have b1 : Below w.heap.size w W1 := by rw [hW1]; exact (Below.refl _ _).alloc (Nat.le_refl _) _
  have i1 : W1.heap[w.heap.size]? = some (.cells #[.int .i64 2, .int .i64 114] 25 (0, 0)) := by rw [hW1]; exact heap_alloc_new w _
  have z1 : W1.heap.size = w.heap.size + 1 := by rw [hW1]; simp
  rw [← hW1]
  clear hW1
  refine (qf.out _).mono ?_
  rintro e w4 ⟨rfl, h2⟩
  have hz2 := h2.size
  have zl : w.heap.size < w4.heap.size := by omega
  have i4 := (h2.block _ (by omega)).trans i1
  have y0 : w4.cell? ⟨w.heap.size, 0, none⟩ = some (.int .i64 2) := box_cell i4 rfl
  have y1 : w4.cell? ⟨w.heap.size, 1, none⟩ = some (.int .i64 114) := box_cell i4 rfl
  have HB : Hid (Below w.heap.size w w4 ∧ w.heap.size ≤ w4.heap.size) := ⟨b1.trans (h2.mono b1.size), by omega⟩
  clear h2 b1 hz2 z1 i1 i4
  go_wp2
  go_ret
  have ho : OwC (w4.alloc (.cells #[.int .u8 18] 5)) w.heap.size (.slice (some ⟨w4.heap.size, 0, none⟩) 1 1) [18] [w4.heap.size] := owC_row (d := [18]) HB.out.2 (heap_alloc_new w4 _) (Nat.le_refl _) (by decide) (fun i hi => by (have e0 : i = 0 := by (simp at hi; omega)); subst e0; rfl) (by intro x hx; simp at hx; omega)
  exact ⟨_, _, rfl, ho, by simp, HB.out.1.alloc HB.out.2 _⟩

set_option maxHeartbeats 4000000 in
theorem specKb_2_115  (w : World) :
    Calls Tryd.prog 12 #[.agg #[.int .i64 2, .int .i64 115]] w fun e w' => ∃ o F, e = .returned o ∧ OwC w' w.heap.size o [19] F ∧ F.Nodup ∧ Below w.heap.size w w' := by
  have hF : kok 2 115 = true := rfl
  have qf : Hid (∀ w', Calls Tryd.prog 17 #[.agg #[.int .i64 2, .int .i64 115]] w' fun e w'' => e = .returned (.bool true) ∧ Below w'.heap.size w' w'') := fun w' => by have := specKok_any 2 115 w'; rw [hF] at this; exact this
  clear hF
  go_enter Tryd.func12, Tryd.ntmps12
  go_wp2_with fail
  obtain ⟨W1, hW1⟩ : ∃ U, U = w.alloc (.cells #[.int .i64 2, .int .i64 115] 25) := ⟨_, rfl⟩
  have b1 : Below w.heap.size w W1 := by rw [hW1]; exact (Below.refl _ _).alloc (Nat.le_refl _) _
  have i1 : W1.heap[w.heap.size]? = some (.cells #[.int .i64 2, .int .i64 115] 25 (0, 0)) := by rw [hW1]; exact heap_alloc_new w _
  have z1 : W1.heap.size = w.heap.size + 1 := by rw [hW1]; simp
  rw [← hW1]
  clear hW1
  refine (qf.out _).mono ?_
  rintro e w4 ⟨rfl, h2⟩
  have hz2 := h2.size
  have zl : w.heap.size < w4.heap.size := by omega
  have i4 := (h2.block _ (by omega)).trans i1
  have y0 : w4.cell? ⟨w.heap.size, 0, none⟩ = some (.int .i64 2) := box_cell i4 rfl
  have y1 : w4.cell? ⟨w.heap.size, 1, none⟩ = some (.int .i64 115) := box_cell i4 rfl
  have HB : Hid (Below w.heap.size w w4 ∧ w.heap.size ≤ w4.heap.size) := ⟨b1.trans (h2.mono b1.size), by omega⟩
  clear h2 b1 hz2 z1 i1 i4
  go_wp2
  go_ret
  have ho : OwC (w4.alloc (.cells #[.int .u8 19] 5)) w.heap.size (.slice (some ⟨w4.heap.size, 0, none⟩) 1 1) [19] [w4.heap.size] := owC_row (d := [19]) HB.out.2 (heap_alloc_new w4 _) (Nat.le_refl _) (by decide) (fun i hi => by (have e0 : i = 0 := by (simp at hi; omega)); subst e0; rfl) (by intro x hx; simp at hx; omega)
  exact ⟨_, _, rfl, ho, by simp, HB.out.1.alloc HB.out.2 _⟩

set_option maxHeartbeats 4000000 in
theorem specKb_2_116  (w : World) :
    Calls Tryd.prog 12 #[.agg #[.int .i64 2, .int .i64 116]] w fun e w' => ∃ o F, e = .returned o ∧ OwC w' w.heap.size o [20] F ∧ F.Nodup ∧ Below w.heap.size w w' := by
  have hF : kok 2 116 = true := rfl
  have qf : Hid (∀ w', Calls Tryd.prog 17 #[.agg #[.int .i64 2, .int .i64 116]] w' fun e w'' => e = .returned (.bool true) ∧ Below w'.heap.size w' w'') := fun w' => by have := specKok_any 2 116 w'; rw [hF] at this; exact this
  clear hF
  go_enter Tryd.func12, Tryd.ntmps12
  go_wp2_with fail
  obtain ⟨W1, hW1⟩ : ∃ U, U = w.alloc (.cells #[.int .i64 2, .int .i64 116] 25) := ⟨_, rfl⟩
  have b1 : Below w.heap.size w W1 := by rw [hW1]; exact (Below.refl _ _).alloc (Nat.le_refl _) _
  have i1 : W1.heap[w.heap.size]? = some (.cells #[.int .i64 2, .int .i64 116] 25 (0, 0)) := by rw [hW1]; exact heap_alloc_new w _
  have z1 : W1.heap.size = w.heap.size + 1 := by rw [hW1]; simp
  rw [← hW1]
  clear hW1
  refine (qf.out _).mono ?_
  rintro e w4 ⟨rfl, h2⟩
  have hz2 := h2.size
  have zl : w.heap.size < w4.heap.size := by omega
  have i4 := (h2.block _ (by omega)).trans i1
  have y0 : w4.cell? ⟨w.heap.size, 0, none⟩ = some (.int .i64 2) := box_cell i4 rfl
  have y1 : w4.cell? ⟨w.heap.size, 1, none⟩ = some (.int .i64 116) := box_cell i4 rfl
  have HB : Hid (Below w.heap.size w w4 ∧ w.heap.size ≤ w4.heap.size) := ⟨b1.trans (h2.mono b1.size), by omega⟩
  clear h2 b1 hz2 z1 i1 i4
  go_wp2
  go_ret
  have ho : OwC (w4.alloc (.cells #[.int .u8 20] 5)) w.heap.size (.slice (some ⟨w4.heap.size, 0, none⟩) 1 1) [20] [w4.heap.size] := owC_row (d := [20]) HB.out.2 (heap_alloc_new w4 _) (Nat.le_refl _) (by decide) (fun i hi => by (have e0 : i = 0 := by (simp at hi; omega)); subst e0; rfl) (by intro x hx; simp at hx; omega)
  exact ⟨_, _, rfl, ho, by simp, HB.out.1.alloc HB.out.2 _⟩

set_option maxHeartbeats 4000000 in
theorem specKb_2_117  (w : World) :
    Calls Tryd.prog 12 #[.agg #[.int .i64 2, .int .i64 117]] w fun e w' => ∃ o F, e = .returned o ∧ OwC w' w.heap.size o [21] F ∧ F.Nodup ∧ Below w.heap.size w w' := by
  have hF : kok 2 117 = true := rfl
  have qf : Hid (∀ w', Calls Tryd.prog 17 #[.agg #[.int .i64 2, .int .i64 117]] w' fun e w'' => e = .returned (.bool true) ∧ Below w'.heap.size w' w'') := fun w' => by have := specKok_any 2 117 w'; rw [hF] at this; exact this
  clear hF
  go_enter Tryd.func12, Tryd.ntmps12
  go_wp2_with fail
  obtain ⟨W1, hW1⟩ : ∃ U, U = w.alloc (.cells #[.int .i64 2, .int .i64 117] 25) := ⟨_, rfl⟩
  have b1 : Below w.heap.size w W1 := by rw [hW1]; exact (Below.refl _ _).alloc (Nat.le_refl _) _
  have i1 : W1.heap[w.heap.size]? = some (.cells #[.int .i64 2, .int .i64 117] 25 (0, 0)) := by rw [hW1]; exact heap_alloc_new w _
  have z1 : W1.heap.size = w.heap.size + 1 := by rw [hW1]; simp
  rw [← hW1]
  clear hW1
  refine (qf.out _).mono ?_
  rintro e w4 ⟨rfl, h2⟩
  have hz2 := h2.size
  have zl : w.heap.size < w4.heap.size := by omega
  have i4 := (h2.block _ (by omega)).trans i1
  have y0 : w4.cell? ⟨w.heap.size, 0, none⟩ = some (.int .i64 2) := box_cell i4 rfl
  have y1 : w4.cell? ⟨w.heap.size, 1, none⟩ = some (.int .i64 117) := box_cell i4 rfl
  have HB : Hid (Below w.heap.size w w4 ∧ w.heap.size ≤ w4.heap.size) := ⟨b1.trans (h2.mono b1.size), by omega⟩
  clear h2 b1 hz2 z1 i1 i4
  go_wp2
  go_ret
  have ho : OwC (w4.alloc (.cells #[.int .u8 21] 5)) w.heap.size (.slice (some ⟨w4.heap.size, 0, none⟩) 1 1) [21] [w4.heap.size] := owC_row (d := [21]) HB.out.2 (heap_alloc_new w4 _) (Nat.le_refl _) (by decide) (fun i hi => by (have e0 : i = 0 := by (simp at hi; omega)); subst e0; rfl) (by intro x hx; simp at hx; omega)
  exact ⟨_, _, rfl, ho, by simp, HB.out.1.alloc HB.out.2 _⟩

set_option maxHeartbeats 4000000 in
theorem specKb_2_118  (w : World) :
    Calls Tryd.prog 12 #[.agg #[.int .i64 2, .int .i64 118]] w fun e w' => ∃ o F, e = .returned o ∧ OwC w' w.heap.size o [22] F ∧ F.Nodup ∧ Below w.heap.size w w' := by
  have hF : kok 2 118 = true := rfl
  have qf : Hid (∀ w', Calls Tryd.prog 17 #[.agg #[.int .i64 2, .int .i64 118]] w' fun e w'' => e = .returned (.bool true) ∧ Below w'.heap.size w' w'') := fun w' => by have := specKok_any 2 118 w'; rw [hF] at this; exact this
  clear hF
  go_enter Tryd.func12, Tryd.ntmps12
  go_wp2_with fail
  obtain ⟨W1, hW1⟩ : ∃ U, U = w.alloc (.cells #[.int .i64 2, .int .i64 118] 25) := ⟨_, rfl⟩
  have b1 : Below w.heap.size w W1 := by rw [hW1]; exact (Below.refl _ _).alloc (Nat.le_refl _) _
  have i1 : W1.heap[w.heap.size]? = some (.cells #[.int .i64 2, .int .i64 118] 25 (0, 0)) := by rw [hW1]; exact heap_alloc_new w _
  have z1 : W1.heap.size = w.heap.size + 1 := by rw [hW1]; simp
  rw [← hW1]
  clear hW1
  refine (qf.out _).mono ?_
  rintro e w4 ⟨rfl, h2⟩
  have hz2 := h2.size
  have zl : w.heap.size < w4.heap.size := by omega
  have i4 := (h2.block _ (by omega)).trans i1
  have y0 : w4.cell? ⟨w.heap.size, 0, none⟩ = some (.int .i64 2) := box_cell i4 rfl
  have y1 : w4.cell? ⟨w.heap.size, 1, none⟩ = some (.int .i64 118) := box_cell i4 rfl
  have HB : Hid (Below w.heap.size w w4 ∧ w.heap.size ≤ w4.heap.size) := ⟨b1.trans (h2.mono b1.size), by omega⟩
  clear h2 b1 hz2 z1 i1 i4
  go_wp2
  go_ret
  have ho : OwC (w4.alloc (.cells #[.int .u8 22] 5)) w.heap.size (.slice (some ⟨w4.heap.size, 0, none⟩) 1 1) [22] [w4.heap.size] := owC_row (d := [22]) HB.out.2 (heap_alloc_new w4 _) (Nat.le_refl _) (by decide) (fun i hi => by (have e0 : i = 0 := by (simp at hi; omega)); subst e0; rfl) (by intro x hx; simp at hx; omega)
  exact ⟨_, _, rfl, ho, by simp, HB.out.1.alloc HB.out.2 _⟩

set_option maxHeartbeats 4000000 in
theorem specKb_2_119  (w : World) :
    Calls Tryd.prog 12 #[.agg #[.int .i64 2, .int .i64 119]] w fun e w' => ∃ o F, e = .returned o ∧ OwC w' w.heap.size o [23] F ∧ F.Nodup ∧ Below w.heap.size w w' := by
  have hF : kok 2 119 = true := rfl
  have qf : Hid (∀ w', Calls Tryd.prog 17 #[.agg #[.int .i64 2, .int .i64 119]] w' fun e w'' => e = .returned (.bool true) ∧ Below w'.heap.size w' w'') := fun w' => by have := specKok_any 2 119 w'; rw [hF] at this; exact this
  clear hF
  go_enter Tryd.func12, Tryd.ntmps12
  go_wp2_with fail
  obtain ⟨W1, hW1⟩ : ∃ U, U = w.alloc (.cells #[.int .i64 2, .int .i64 119] 25) := ⟨_, rfl⟩
  have b1 : Below w.heap.size w W1 := by rw [hW1]; exact (Below.refl _ _).alloc (Nat.le_refl _) _
  have i1 : W1.heap[w.heap.size]? = some (.cells #[.int .i64 2, .int .i64 119] 25 (0, 0)) := by rw [hW1]; exact heap_alloc_new w _
  have z1 : W1.heap.size = w.heap.size + 1 := by rw [hW1]; simp
  rw [← hW1]
  clear hW1
  refine (qf.out _).mono ?_
  rintro e w4 ⟨rfl, h2⟩
  have hz2 := h2.size
  have zl : w.heap.size < w4.heap.size := by omega
  have i4 := (h2.block _ (by omega)).trans i1
  have y0 : w4.cell? ⟨w.heap.size, 0, none⟩ = some (.int .i64 2) := box_cell i4 rfl
  have y1 : w4.cell? ⟨w.heap.size, 1, none⟩ = some (.int .i64 119) := box_cell i4 rfl
  have HB : Hid (Below w.heap.size w w4 ∧ w.heap.size ≤ w4.heap.size) := ⟨b1.trans (h2.mono b1.size), by omega⟩
  clear h2 b1 hz2 z1 i1 i4
  go_wp2
  go_ret
  have ho : OwC (w4.alloc (.cells #[.int .u8 23] 5)) w.heap.size (.slice (some ⟨w4.heap.size, 0, none⟩) 1 1) [23] [w4.heap.size] := owC_row (d := [23]) HB.out.2 (heap_alloc_new w4 _) (Nat.le_refl _) (by decide) (fun i hi => by (have e0 : i = 0 := by (simp at hi; omega)); subst e0; rfl) (by intro x hx; simp at hx; omega)
  exact ⟨_, _, rfl, ho, by simp, HB.out.1.alloc HB.out.2 _⟩

set_option maxHeartbeats 4000000 in
theorem specKb_2_120  (w : World) :
    Calls Tryd.prog 12 #[.agg #[.int .i64 2, .int .i64 120]] w fun e w' => ∃ o F, e = .returned o ∧ OwC w' w.heap.size o [24] F ∧ F.Nodup ∧ Below w.heap.size w w' := by
  have hF : kok 2 120 = true := rfl
  have qf : Hid (∀ w', Calls Tryd.prog 17 #[.agg #[.int .i64 2, .int .i64 120]] w' fun e w'' => e = .returned (.bool true) ∧ Below w'.heap.size w' w'') := fun w' => by have := specKok_any 2 120 w'; rw [hF] at this; exact this
  clear hF
  go_enter Tryd.func12, Tryd.ntmps12
  go_wp2_with fail
  obtain ⟨W1, hW1⟩ : ∃ U, U = w.alloc (.cells #[.int .i64 2, .int .i64 120] 25) := ⟨_, rfl⟩
  have b1 : Below w.heap.size w W1 := by rw [hW1]; exact (Below.refl _ _).alloc (Nat.le_refl _) _
  have i1 : W1.heap[w.heap.size]? = some (.cells #[.int .i64 2, .int .i64 120] 25 (0, 0)) := by rw [hW1]; exact heap_alloc_new w _
  have z1 : W1.heap.size = w.heap.size + 1 := by rw [hW1]; simp
  rw [← hW1]
  clear hW1
  refine (qf.out _).mono ?_
  rintro e w4 ⟨rfl, h2⟩
  have hz2 := h2.size
  have zl : w.heap.size < w4.heap.size := by omega
  have i4 := (h2.block _ (by omega)).trans i1
  have y0 : w4.cell? ⟨w.heap.size, 0, none⟩ = some (.int .i64 2) := box_cell i4 rfl
  have y1 : w4.cell? ⟨w.heap.size, 1, none⟩ = some (.int .i64 120) := box_cell i4 rfl
  have HB : Hid (Below w.heap.size w w4 ∧ w.heap.size ≤ w4.heap.size) := ⟨b1.trans (h2.mono b1.size), by omega⟩
  clear h2 b1 hz2 z1 i1 i4
  go_wp2
  go_ret
  have ho : OwC (w4.alloc (.cells #[.int .u8 24] 5)) w.heap.size (.slice (some ⟨w4.heap.size, 0, none⟩) 1 1) [24] [w4.heap.size] := owC_row (d := [24]) HB.out.2 (heap_alloc_new w4 _) (Nat.le_refl _) (by decide) (fun i hi => by (have e0 : i = 0 := by (simp at hi; omega)); subst e0; rfl) (by intro x hx; simp at hx; omega)
  exact ⟨_, _, rfl, ho, by simp, HB.out.1.alloc HB.out.2 _⟩

set_option maxHeartbeats 4000000 in
theorem specKb_2_121  (w : World) :
    Calls Tryd.prog 12 #[.agg #[.int .i64 2, .int .i64 121]] w fun e w' => ∃ o F, e = .returned o ∧ OwC w' w.heap.size o [25] F ∧ F.Nodup ∧ Below w.heap.size w w' := by
  have hF : kok 2 121 = true := rfl
  have qf : Hid (∀ w', Calls Tryd.prog 17 #[.agg #[.int .i64 2, .int .i64 121]] w' fun e w'' => e = .returned (.bool true) ∧ Below w'.heap.size w' w'') := fun w' => by have := specKok_any 2 121 w'; rw [hF] at this; exact this
  clear hF
  go_enter Tryd.func12, Tryd.ntmps12
  go_wp2_with fail
  obtain ⟨W1, hW1⟩ : ∃ U, U = w.alloc (.cells #[.int .i64 2, .int .i64 121] 25) := ⟨_, rfl⟩
  have b1 : Below w.heap.size w W1 := by rw [hW1]; exact (Below.refl _ _).alloc (Nat.le_refl _) _
  have i1 : W1.heap[w.heap.size]? = some (.cells #[.int .i64 2, .int .i64 121] 25 (0, 0)) := by rw [hW1]; exact heap_alloc_new w _
  have z1 : W1.heap.size = w.heap.size + 1 := by rw [hW1]; simp
  rw [← hW1]
  clear hW1
  refine (qf.out _).mono ?_
  rintro e w4 ⟨rfl, h2⟩
  have hz2 := h2.size
  have zl : w.heap.size < w4.heap.size := by omega
  have i4 := (h2.block _ (by omega)).trans i1
  have y0 : w4.cell? ⟨w.heap.size, 0, none⟩ = some (.int .i64 2) := box_cell i4 rfl
  have y1 : w4.cell? ⟨w.heap.size, 1, none⟩ = some (.int .i64 121) := box_cell i4 rfl
  have HB : Hid (Below w.heap.size w w4 ∧ w.heap.size ≤ w4.heap.size) := ⟨b1.trans (h2.mono b1.size), by omega⟩
  clear h2 b1 hz2 z1 i1 i4
  go_wp2
  go_ret
  have ho : OwC (w4.alloc (.cells #[.int .u8 25] 5)) w.heap.size (.slice (some ⟨w4.heap.size, 0, none⟩) 1 1) [25] [w4.heap.size] := owC_row (d := [25]) HB.out.2 (heap_alloc_new w4 _) (Nat.le_refl _) (by decide) (fun i hi => by (have e0 : i = 0 := by (simp at hi; omega)); subst e0; rfl) (by intro x hx; simp at hx; omega)
  exact ⟨_, _, rfl, ho, by simp, HB.out.1.alloc HB.out.2 _⟩

set_option maxHeartbeats 4000000 in
theorem specKb_2_122  (w : World) :
    Calls Tryd.prog 12 #[.agg #[.int .i64 2, .int .i64 122]] w fun e w' => ∃ o F, e = .returned o ∧ OwC w' w.heap.size o [26] F ∧ F.Nodup ∧ Below w.heap.size w w' := by
  have hF : kok 2 122 = true := rfl
  have qf : Hid (∀ w', Calls Tryd.prog 17 #[.agg #[.int .i64 2, .int .i64 122]] w' fun e w'' => e = .returned (.bool true) ∧ Below w'.heap.size w' w'') := fun w' => by have := specKok_any 2 122 w'; rw [hF] at this; exact this
  clear hF
  go_enter Tryd.func12, Tryd.ntmps12
  go_wp2_with fail
  obtain ⟨W1, hW1⟩ : ∃ U, U = w.alloc (.cells #[.int .i64 2, .int .i64 122] 25) := ⟨_, rfl⟩
  have b1 : Below w.heap.size w W1 := by rw [hW1]; exact (Below.refl _ _).alloc (Nat.le_refl _) _
  have i1 : W1.heap[w.heap.size]? = some (.cells #[.int .i64 2, .int .i64 122] 25 (0, 0)) := by rw [hW1]; exact heap_alloc_new w _
  have z1 : W1.heap.size = w.heap.size + 1 := by rw [hW1]; simp
  rw [← hW1]
  clear hW1
  refine (qf.out _).mono ?_
  rintro e w4 ⟨rfl, h2⟩
  have hz2 := h2.size
  have zl : w.heap.size < w4.heap.size := by omega
  have i4 := (h2.block _ (by omega)).trans i1
  have y0 : w4.cell? ⟨w.heap.size, 0, none⟩ = some (.int .i64 2) := box_cell i4 rfl
  have y1 : w4.cell? ⟨w.heap.size, 1, none⟩ = some (.int .i64 122) := box_cell i4 rfl
  have HB : Hid (Below w.heap.size w w4 ∧ w.heap.size ≤ w4.heap.size) := ⟨b1.trans (h2.mono b1.size), by omega⟩
  clear h2 b1 hz2 z1 i1 i4
  go_wp2
  go_ret
  have ho : OwC (w4.alloc (.cells #[.int .u8 26] 5)) w.heap.size (.slice (some ⟨w4.heap.size, 0, none⟩) 1 1) [26] [w4.heap.size] := owC_row (d := [26]) HB.out.2 (heap_alloc_new w4 _) (Nat.le_refl _) (by decide) (fun i hi => by (have e0 : i = 0 := by (simp at hi; omega)); subst e0; rfl) (by intro x hx; simp at hx; omega)
  exact ⟨_, _, rfl, ho, by simp, HB.out.1.alloc HB.out.2 _⟩

set_option maxHeartbeats 4000000 in
theorem specKb_3 (r : Int) (hF : kok 3 r = true) (h1 : 33 ≤ r) (h2 : r ≤ 126) (w : World) :
    Calls Tryd.prog 12 #[.agg #[.int .i64 3, .int .i64 r]] w fun e w' => ∃ o F, e = .returned o ∧ OwC w' w.heap.size o [27, r] F ∧ F.Nodup ∧ Below w.heap.size w w' := by
  have qf : Hid (∀ w', Calls Tryd.prog 17 #[.agg #[.int .i64 3, .int .i64 r]] w' fun e w'' => e = .returned (.bool true) ∧ Below w'.heap.size w' w'') := fun w' => by have := specKok_any 3 r w'; rw [hF] at this; exact this
  clear hF
  go_enter Tryd.func12, Tryd.ntmps12
  go_wp2_with fail
  obtain ⟨W1, hW1⟩ : ∃ U, U = w.alloc (.cells #[.int .i64 3, .int .i64 r] 25) := ⟨_, rfl⟩
  have b1 : Below w.heap.size w W1 := by rw [hW1]; exact (Below.refl _ _).alloc (Nat.le_refl _) _
  have i1 : W1.heap[w.heap.size]? = some (.cells #[.int .i64 3, .int .i64 r] 25 (0, 0)) := by rw [hW1]; exact heap_alloc_new w _
  have z1 : W1.heap.size = w.heap.size + 1 := by rw [hW1]; simp
  rw [← hW1]
  clear hW1
  refine (qf.out _).mono ?_
  rintro e w4 ⟨rfl, h2⟩
  have hz2 := h2.size
  have zl : w.heap.size < w4.heap.size := by omega
  have i4 := (h2.block _ (by omega)).trans i1
  have y0 : w4.cell? ⟨w.heap.size, 0, none⟩ = some (.int .i64 3) := box_cell i4 rfl
  have y1 : w4.cell? ⟨w.heap.size, 1, none⟩ = some (.int .i64 r) := box_cell i4 rfl
  have HB : Hid (Below w.heap.size w w4 ∧ w.heap.size ≤ w4.heap.size) := ⟨b1.trans (h2.mono b1.size), by omega⟩
  clear h2 b1 hz2 z1 i1 i4
  go_wp2
  go_ret
  have ho : OwC (w4.alloc (.cells #[.int .u8 27, .int .u8 r] 5)) w.heap.size (.slice (some ⟨w4.heap.size, 0, none⟩) 2 2) [27, r] [w4.heap.size] := owC_row (d := [27, r]) HB.out.2 (heap_alloc_new w4 _) (Nat.le_refl _) (by decide) (fun i hi => by (have e0 : i = 0 ∨ i = 1 := by (simp at hi; omega)); (rcases e0 with e0 | e0 <;> subst e0 <;> rfl)) (by intro x hx; simp at hx; omega)
  exact ⟨_, _, rfl, ho, by simp, HB.out.1.alloc HB.out.2 _⟩

set_option maxHeartbeats 4000000 in
theorem specKb_n0  (w : World) :
    Calls Tryd.prog 12 #[.agg #[.int .i64 4, .int .i64 0]] w fun e w' => ∃ o F, e = .returned o ∧ OwC w' w.heap.size o (snZ 0) F ∧ F.Nodup ∧ Below w.heap.size w w' := by
  have hF : kok 4 0 = true := rfl
  have qf : Hid (∀ w', Calls Tryd.prog 17 #[.agg #[.int .i64 4, .int .i64 0]] w' fun e w'' => e = .returned (.bool true) ∧ Below w'.heap.size w' w'') := fun w' => by have := specKok_any 4 0 w'; rw [hF] at this; exact this
  clear hF
  go_enter Tryd.func12, Tryd.ntmps12
  go_wp2_with fail
  obtain ⟨W1, hW1⟩ : ∃ U, U = w.alloc (.cells #[.int .i64 4, .int .i64 0] 25) := ⟨_, rfl⟩
  have b1 : Below w.heap.size w W1 := by rw [hW1]; exact (Below.refl _ _).alloc (Nat.le_refl _) _
  have i1 : W1.heap[w.heap.size]? = some (.cells #[.int .i64 4, .int .i64 0] 25 (0, 0)) := by rw [hW1]; exact heap_alloc_new w _
  have z1 : W1.heap.size = w.heap.size + 1 := by rw [hW1]; simp
  rw [← hW1]
  clear hW1
  refine (qf.out _).mono ?_
  rintro e w4 ⟨rfl, h2⟩
  have hz2 := h2.size
  have zl : w.heap.size < w4.heap.size := by omega
  have i4 := (h2.block _ (by omega)).trans i1
  have y0 : w4.cell? ⟨w.heap.size, 0, none⟩ = some (.int .i64 4) := box_cell i4 rfl
  have y1 : w4.cell? ⟨w.heap.size, 1, none⟩ = some (.int .i64 0) := box_cell i4 rfl
  have HB : Hid (Below w.heap.size w w4 ∧ w.heap.size ≤ w4.heap.size) := ⟨b1.trans (h2.mono b1.size), by omega⟩
  clear h2 b1 hz2 z1 i1 i4
  have hcv := fun W : World => Lib.run_convert_string_bytes (P := Tryd.prog) W 9 32 5 ⟨#[13]⟩ Tryd.underlying9 Tryd.underlying32 Tryd.underlying5
  go_wp2
  go_ret
  have zW : w.heap.size ≤ (w4.alloc (.cells #[.string ⟨#[13]⟩, .string ⟨#[127]⟩, .string ⟨#[9]⟩, .string ⟨#[27]⟩, .string ⟨#[27, 91, 65]⟩, .string ⟨#[27, 91, 66]⟩, .string ⟨#[27, 91, 67]⟩, .string ⟨#[27, 91, 68]⟩, .string ⟨#[27, 91, 72]⟩, .string ⟨#[27, 91, 70]⟩, .string ⟨#[27, 91, 51, 126]⟩, .string ⟨#[27, 127]⟩, .string ⟨#[0]⟩] 9)).heap.size := by simp; have := HB.out.2; omega
  have ho := (owC_conv (w4.alloc (.cells #[.string ⟨#[13]⟩, .string ⟨#[127]⟩, .string ⟨#[9]⟩, .string ⟨#[27]⟩, .string ⟨#[27, 91, 65]⟩, .string ⟨#[27, 91, 66]⟩, .string ⟨#[27, 91, 67]⟩, .string ⟨#[27, 91, 68]⟩, .string ⟨#[27, 91, 72]⟩, .string ⟨#[27, 91, 70]⟩, .string ⟨#[27, 91, 51, 126]⟩, .string ⟨#[27, 127]⟩, .string ⟨#[0]⟩] 9)) ⟨#[13]⟩ (by decide)).base zW
  have hb := (HB.out.1.alloc HB.out.2 _).trans ((below_conv (w4.alloc (.cells #[.string ⟨#[13]⟩, .string ⟨#[127]⟩, .string ⟨#[9]⟩, .string ⟨#[27]⟩, .string ⟨#[27, 91, 65]⟩, .string ⟨#[27, 91, 66]⟩, .string ⟨#[27, 91, 67]⟩, .string ⟨#[27, 91, 68]⟩, .string ⟨#[27, 91, 72]⟩, .string ⟨#[27, 91, 70]⟩, .string ⟨#[27, 91, 51, 126]⟩, .string ⟨#[27, 127]⟩, .string ⟨#[0]⟩] 9)) ⟨#[13]⟩).mono zW)
  have e9 : (w4.alloc (.cells #[.string ⟨#[13]⟩, .string ⟨#[127]⟩, .string ⟨#[9]⟩, .string ⟨#[27]⟩, .string ⟨#[27, 91, 65]⟩, .string ⟨#[27, 91, 66]⟩, .string ⟨#[27, 91, 67]⟩, .string ⟨#[27, 91, 68]⟩, .string ⟨#[27, 91, 72]⟩, .string ⟨#[27, 91, 70]⟩, .string ⟨#[27, 91, 51, 126]⟩, .string ⟨#[27, 127]⟩, .string ⟨#[0]⟩] 9)).heap.size = w4.heap.size + 1 := by simp
  rw [e9] at ho
  exact ⟨_, _, rfl, ho, by simp, hb⟩

set_option maxHeartbeats 4000000 in
theorem specKb_n1  (w : World) :
    Calls Tryd.prog 12 #[.agg #[.int .i64 5, .int .i64 0]] w fun e w' => ∃ o F, e = .returned o ∧ OwC w' w.heap.size o (snZ 1) F ∧ F.Nodup ∧ Below w.heap.size w w' := by
  have hF : kok 5 0 = true := rfl
  have qf : Hid (∀ w', Calls Tryd.prog 17 #[.agg #[.int .i64 5, .int .i64 0]] w' fun e w'' => e = .returned (.bool true) ∧ Below w'.heap.size w' w'') := fun w' => by have := specKok_any 5 0 w'; rw [hF] at this; exact this
  clear hF
  go_enter Tryd.func12, Tryd.ntmps12
  go_wp2_with fail
  obtain ⟨W1, hW1⟩ : ∃ U, U = w.alloc (.cells #[.int .i64 5, .int .i64 0] 25) := ⟨_, rfl⟩
  have b1 : Below w.heap.size w W1 := by rw [hW1]; exact (Below.refl _ _).alloc (Nat.le_refl _) _
  have i1 : W1.heap[w.heap.size]? = some (.cells #[.int .i64 5, .int .i64 0] 25 (0, 0)) := by rw [hW1]; exact heap_alloc_new w _
  have z1 : W1.heap.size = w.heap.size + 1 := by rw [hW1]; simp
  rw [← hW1]
  clear hW1
  refine (qf.out _).mono ?_
  rintro e w4 ⟨rfl, h2⟩
  have hz2 := h2.size
  have zl : w.heap.size < w4.heap.size := by omega
  have i4 := (h2.block _ (by omega)).trans i1
  have y0 : w4.cell? ⟨w.heap.size, 0, none⟩ = some (.int .i64 5) := box_cell i4 rfl
  have y1 : w4.cell? ⟨w.heap.size, 1, none⟩ = some (.int .i64 0) := box_cell i4 rfl
  have HB : Hid (Below w.heap.size w w4 ∧ w.heap.size ≤ w4.heap.size) := ⟨b1.trans (h2.mono b1.size), by omega⟩
  clear h2 b1 hz2 z1 i1 i4
  have hcv := fun W : World => Lib.run_convert_string_bytes (P := Tryd.prog) W 9 32 5 ⟨#[127]⟩ Tryd.underlying9 Tryd.underlying32 Tryd.underlying5
  go_wp2
  go_ret
  have zW : w.heap.size ≤ (w4.alloc (.cells #[.string ⟨#[13]⟩, .string ⟨#[127]⟩, .string ⟨#[9]⟩, .string ⟨#[27]⟩, .string ⟨#[27, 91, 65]⟩, .string ⟨#[27, 91, 66]⟩, .string ⟨#[27, 91, 67]⟩, .string ⟨#[27, 91, 68]⟩, .string ⟨#[27, 91, 72]⟩, .string ⟨#[27, 91, 70]⟩, .string ⟨#[27, 91, 51, 126]⟩, .string ⟨#[27, 127]⟩, .string ⟨#[0]⟩] 9)).heap.size := by simp; have := HB.out.2; omega
  have ho := (owC_conv (w4.alloc (.cells #[.string ⟨#[13]⟩, .string ⟨#[127]⟩, .string ⟨#[9]⟩, .string ⟨#[27]⟩, .string ⟨#[27, 91, 65]⟩, .string ⟨#[27, 91, 66]⟩, .string ⟨#[27, 91, 67]⟩, .string ⟨#[27, 91, 68]⟩, .string ⟨#[27, 91, 72]⟩, .string ⟨#[27, 91, 70]⟩, .string ⟨#[27, 91, 51, 126]⟩, .string ⟨#[27, 127]⟩, .string ⟨#[0]⟩] 9)) ⟨#[127]⟩ (by decide)).base zW
  have hb := (HB.out.1.alloc HB.out.2 _).trans ((below_conv (w4.alloc (.cells #[.string ⟨#[13]⟩, .string ⟨#[127]⟩, .string ⟨#[9]⟩, .string ⟨#[27]⟩, .string ⟨#[27, 91, 65]⟩, .string ⟨#[27, 91, 66]⟩, .string ⟨#[27, 91, 67]⟩, .string ⟨#[27, 91, 68]⟩, .string ⟨#[27, 91, 72]⟩, .string ⟨#[27, 91, 70]⟩, .string ⟨#[27, 91, 51, 126]⟩, .string ⟨#[27, 127]⟩, .string ⟨#[0]⟩] 9)) ⟨#[127]⟩).mono zW)
  have e9 : (w4.alloc (.cells #[.string ⟨#[13]⟩, .string ⟨#[127]⟩, .string ⟨#[9]⟩, .string ⟨#[27]⟩, .string ⟨#[27, 91, 65]⟩, .string ⟨#[27, 91, 66]⟩, .string ⟨#[27, 91, 67]⟩, .string ⟨#[27, 91, 68]⟩, .string ⟨#[27, 91, 72]⟩, .string ⟨#[27, 91, 70]⟩, .string ⟨#[27, 91, 51, 126]⟩, .string ⟨#[27, 127]⟩, .string ⟨#[0]⟩] 9)).heap.size = w4.heap.size + 1 := by simp
  rw [e9] at ho
  exact ⟨_, _, rfl, ho, by simp, hb⟩

set_option maxHeartbeats 4000000 in
theorem specKb_n2  (w : World) :
    Calls Tryd.prog 12 #[.agg #[.int .i64 6, .int .i64 0]] w fun e w' => ∃ o F, e = .returned o ∧ OwC w' w.heap.size o (snZ 2) F ∧ F.Nodup ∧ Below w.heap.size w w' := by
  have hF : kok 6 0 = true := rfl
  have qf : Hid (∀ w', Calls Tryd.prog 17 #[.agg #[.int .i64 6, .int .i64 0]] w' fun e w'' => e = .returned (.bool true) ∧ Below w'.heap.size w' w'') := fun w' => by have := specKok_any 6 0 w'; rw [hF] at this; exact this
  clear hF
  go_enter Tryd.func12, Tryd.ntmps12
  go_wp2_with fail
  obtain ⟨W1, hW1⟩ : ∃ U, U = w.alloc (.cells #[.int .i64 6, .int .i64 0] 25) := ⟨_, rfl⟩
  have b1 : Below w.heap.size w W1 := by rw [hW1]; exact (Below.refl _ _).alloc (Nat.le_refl _) _
  have i1 : W1.heap[w.heap.size]? = some (.cells #[.int .i64 6, .int .i64 0] 25 (0, 0)) := by rw [hW1]; exact heap_alloc_new w _
  have z1 : W1.heap.size = w.heap.size + 1 := by rw [hW1]; simp
  rw [← hW1]
  clear hW1
  refine (qf.out _).mono ?_
  rintro e w4 ⟨rfl, h2⟩
  have hz2 := h2.size
  have zl : w.heap.size < w4.heap.size := by omega
  have i4 := (h2.block _ (by omega)).trans i1
  have y0 : w4.cell? ⟨w.heap.size, 0, none⟩ = some (.int .i64 6) := box_cell i4 rfl
  have y1 : w4.cell? ⟨w.heap.size, 1, none⟩ = some (.int .i64 0) := box_cell i4 rfl
  have HB : Hid (Below w.heap.size w w4 ∧ w.heap.size ≤ w4.heap.size) := ⟨b1.trans (h2.mono b1.size), by omega⟩
  clear h2 b1 hz2 z1 i1 i4
  have hcv := fun W : World => Lib.run_convert_string_bytes (P := Tryd.prog) W 9 32 5 ⟨#[9]⟩ Tryd.underlying9 Tryd.underlying32 Tryd.underlying5
  go_wp2
  go_ret
  have zW : w.heap.size ≤ (w4.alloc (.cells #[.string ⟨#[13]⟩, .string ⟨#[127]⟩, .string ⟨#[9]⟩, .string ⟨#[27]⟩, .string ⟨#[27, 91, 65]⟩, .string ⟨#[27, 91, 66]⟩, .string ⟨#[27, 91, 67]⟩, .string ⟨#[27, 91, 68]⟩, .string ⟨#[27, 91, 72]⟩, .string ⟨#[27, 91, 70]⟩, .string ⟨#[27, 91, 51, 126]⟩, .string ⟨#[27, 127]⟩, .string ⟨#[0]⟩] 9)).heap.size := by simp; have := HB.out.2; omega
  have ho := (owC_conv (w4.alloc (.cells #[.string ⟨#[13]⟩, .string ⟨#[127]⟩, .string ⟨#[9]⟩, .string ⟨#[27]⟩, .string ⟨#[27, 91, 65]⟩, .string ⟨#[27, 91, 66]⟩, .string ⟨#[27, 91, 67]⟩, .string ⟨#[27, 91, 68]⟩, .string ⟨#[27, 91, 72]⟩, .string ⟨#[27, 91, 70]⟩, .string ⟨#[27, 91, 51, 126]⟩, .string ⟨#[27, 127]⟩, .string ⟨#[0]⟩] 9)) ⟨#[9]⟩ (by decide)).base zW
  have hb := (HB.out.1.alloc HB.out.2 _).trans ((below_conv (w4.alloc (.cells #[.string ⟨#[13]⟩, .string ⟨#[127]⟩, .string ⟨#[9]⟩, .string ⟨#[27]⟩, .string ⟨#[27, 91, 65]⟩, .string ⟨#[27, 91, 66]⟩, .string ⟨#[27, 91, 67]⟩, .string ⟨#[27, 91, 68]⟩, .string ⟨#[27, 91, 72]⟩, .string ⟨#[27, 91, 70]⟩, .string ⟨#[27, 91, 51, 126]⟩, .string ⟨#[27, 127]⟩, .string ⟨#[0]⟩] 9)) ⟨#[9]⟩).mono zW)
  have e9 : (w4.alloc (.cells #[.string ⟨#[13]⟩, .string ⟨#[127]⟩, .string ⟨#[9]⟩, .string ⟨#[27]⟩, .string ⟨#[27, 91, 65]⟩, .string ⟨#[27, 91, 66]⟩, .string ⟨#[27, 91, 67]⟩, .string ⟨#[27, 91, 68]⟩, .string ⟨#[27, 91, 72]⟩, .string ⟨#[27, 91, 70]⟩, .string ⟨#[27, 91, 51, 126]⟩, .string ⟨#[27, 127]⟩, .string ⟨#[0]⟩] 9)).heap.size = w4.heap.size + 1 := by simp
  rw [e9] at ho
  exact ⟨_, _, rfl, ho, by simp, hb⟩

set_option maxHeartbeats 4000000 in
theorem specKb_n3  (w : World) :
    Calls Tryd.prog 12 #[.agg #[.int .i64 7, .int .i64 0]] w fun e w' => ∃ o F, e = .returned o ∧ OwC w' w.heap.size o (snZ 3) F ∧ F.Nodup ∧ Below w.heap.size w w' := by
  have hF : kok 7 0 = true := rfl
  have qf : Hid (∀ w', Calls Tryd.prog 17 #[.agg #[.int .i64 7, .int .i64 0]] w' fun e w'' => e = .returned (.bool true) ∧ Below w'.heap.size w' w'') := fun w' => by have := specKok_any 7 0 w'; rw [hF] at this; exact this
  clear hF
  go_enter Tryd.func12, Tryd.ntmps12
  go_wp2_with fail
  obtain ⟨W1, hW1⟩ : ∃ U, U = w.alloc (.cells #[.int .i64 7, .int .i64 0] 25) := ⟨_, rfl⟩
  have b1 : Below w.heap.size w W1 := by rw [hW1]; exact (Below.refl _ _).alloc (Nat.le_refl _) _
  have i1 : W1.heap[w.heap.size]? = some (.cells #[.int .i64 7, .int .i64 0] 25 (0, 0)) := by rw [hW1]; exact heap_alloc_new w _
  have z1 : W1.heap.size = w.heap.size + 1 := by rw [hW1]; simp
  rw [← hW1]
  clear hW1
  refine (qf.out _).mono ?_
  rintro e w4 ⟨rfl, h2⟩
  have hz2 := h2.size
  have zl : w.heap.size < w4.heap.size := by omega
  have i4 := (h2.block _ (by omega)).trans i1
  have y0 : w4.cell? ⟨w.heap.size, 0, none⟩ = some (.int .i64 7) := box_cell i4 rfl
  have y1 : w4.cell? ⟨w.heap.size, 1, none⟩ = some (.int .i64 0) := box_cell i4 rfl
  have HB : Hid (Below w.heap.size w w4 ∧ w.heap.size ≤ w4.heap.size) := ⟨b1.trans (h2.mono b1.size), by omega⟩
  clear h2 b1 hz2 z1 i1 i4
  have hcv := fun W : World => Lib.run_convert_string_bytes (P := Tryd.prog) W 9 32 5 ⟨#[27]⟩ Tryd.underlying9 Tryd.underlying32 Tryd.underlying5
  go_wp2
  go_ret
  have zW : w.heap.size ≤ (w4.alloc (.cells #[.string ⟨#[13]⟩, .string ⟨#[127]⟩, .string ⟨#[9]⟩, .string ⟨#[27]⟩, .string ⟨#[27, 91, 65]⟩, .string ⟨#[27, 91, 66]⟩, .string ⟨#[27, 91, 67]⟩, .string ⟨#[27, 91, 68]⟩, .string ⟨#[27, 91, 72]⟩, .string ⟨#[27, 91, 70]⟩, .string ⟨#[27, 91, 51, 126]⟩, .string ⟨#[27, 127]⟩, .string ⟨#[0]⟩] 9)).heap.size := by simp; have := HB.out.2; omega
  have ho := (owC_conv (w4.alloc (.cells #[.string ⟨#[13]⟩, .string ⟨#[127]⟩, .string ⟨#[9]⟩, .string ⟨#[27]⟩, .string ⟨#[27, 91, 65]⟩, .string ⟨#[27, 91, 66]⟩, .string ⟨#[27, 91, 67]⟩, .string ⟨#[27, 91, 68]⟩, .string ⟨#[27, 91, 72]⟩, .string ⟨#[27, 91, 70]⟩, .string ⟨#[27, 91, 51, 126]⟩, .string ⟨#[27, 127]⟩, .string ⟨#[0]⟩] 9)) ⟨#[27]⟩ (by decide)).base zW
  have hb := (HB.out.1.alloc HB.out.2 _).trans ((below_conv (w4.alloc (.cells #[.string ⟨#[13]⟩, .string ⟨#[127]⟩, .string ⟨#[9]⟩, .string ⟨#[27]⟩, .string ⟨#[27, 91, 65]⟩, .string ⟨#[27, 91, 66]⟩, .string ⟨#[27, 91, 67]⟩, .string ⟨#[27, 91, 68]⟩, .string ⟨#[27, 91, 72]⟩, .string ⟨#[27, 91, 70]⟩, .string ⟨#[27, 91, 51, 126]⟩, .string ⟨#[27, 127]⟩, .string ⟨#[0]⟩] 9)) ⟨#[27]⟩).mono zW)
  have e9 : (w4.alloc (.cells #[.string ⟨#[13]⟩, .string ⟨#[127]⟩, .string ⟨#[9]⟩, .string ⟨#[27]⟩, .string ⟨#[27, 91, 65]⟩, .string ⟨#[27, 91, 66]⟩, .string ⟨#[27, 91, 67]⟩, .string ⟨#[27, 91, 68]⟩, .string ⟨#[27, 91, 72]⟩, .string ⟨#[27, 91, 70]⟩, .string ⟨#[27, 91, 51, 126]⟩, .string ⟨#[27, 127]⟩, .string ⟨#[0]⟩] 9)).heap.size = w4.heap.size + 1 := by simp
  rw [e9] at ho
  exact ⟨_, _, rfl, ho, by simp, hb⟩

set_option maxHeartbeats 4000000 in
theorem specKb_n4  (w : World) :
    Calls Tryd.prog 12 #[.agg #[.int .i64 8, .int .i64 0]] w fun e w' => ∃ o F, e = .returned o ∧ OwC w' w.heap.size o (snZ 4) F ∧ F.Nodup ∧ Below w.heap.size w w' := by
  have hF : kok 8 0 = true := rfl
  have qf : Hid (∀ w', Calls Tryd.prog 17 #[.agg #[.int .i64 8, .int .i64 0]] w' fun e w'' => e = .returned (.bool true) ∧ Below w'.heap.size w' w'') := fun w' => by have := specKok_any 8 0 w'; rw [hF] at this; exact this
  clear hF
  go_enter Tryd.func12, Tryd.ntmps12
  go_wp2_with fail
  obtain ⟨W1, hW1⟩ : ∃ U, U = w.alloc (.cells #[.int .i64 8, .int .i64 0] 25) := ⟨_, rfl⟩
  have b1 : Below w.heap.size w W1 := by rw [hW1]; exact (Below.refl _ _).alloc (Nat.le_refl _) _
  have i1 : W1.heap[w.heap.size]? = some (.cells #[.int .i64 8, .int .i64 0] 25 (0, 0)) := by rw [hW1]; exact heap_alloc_new w _
  have z1 : W1.heap.size = w.heap.size + 1 := by rw [hW1]; simp
  rw [← hW1]
  clear hW1
  refine (qf.out _).mono ?_
  rintro e w4 ⟨rfl, h2⟩
  have hz2 := h2.size
  have zl : w.heap.size < w4.heap.size := by omega
  have i4 := (h2.block _ (by omega)).trans i1
  have y0 : w4.cell? ⟨w.heap.size, 0, none⟩ = some (.int .i64 8) := box_cell i4 rfl
  have y1 : w4.cell? ⟨w.heap.size, 1, none⟩ = some (.int .i64 0) := box_cell i4 rfl
  have HB : Hid (Below w.heap.size w w4 ∧ w.heap.size ≤ w4.heap.size) := ⟨b1.trans (h2.mono b1.size), by omega⟩
  clear h2 b1 hz2 z1 i1 i4
  have hcv := fun W : World => Lib.run_convert_string_bytes (P := Tryd.prog) W 9 32 5 ⟨#[27, 91, 65]⟩ Tryd.underlying9 Tryd.underlying32 Tryd.underlying5
  go_wp2
  go_ret
  have zW : w.heap.size ≤ (w4.alloc (.cells #[.string ⟨#[13]⟩, .string ⟨#[127]⟩, .string ⟨#[9]⟩, .string ⟨#[27]⟩, .string ⟨#[27, 91, 65]⟩, .string ⟨#[27, 91, 66]⟩, .string ⟨#[27, 91, 67]⟩, .string ⟨#[27, 91, 68]⟩, .string ⟨#[27, 91, 72]⟩, .string ⟨#[27, 91, 70]⟩, .string ⟨#[27, 91, 51, 126]⟩, .string ⟨#[27, 127]⟩, .string ⟨#[0]⟩] 9)).heap.size := by simp; have := HB.out.2; omega
  have ho := (owC_conv (w4.alloc (.cells #[.string ⟨#[13]⟩, .string ⟨#[127]⟩, .string ⟨#[9]⟩, .string ⟨#[27]⟩, .string ⟨#[27, 91, 65]⟩, .string ⟨#[27, 91, 66]⟩, .string ⟨#[27, 91, 67]⟩, .string ⟨#[27, 91, 68]⟩, .string ⟨#[27, 91, 72]⟩, .string ⟨#[27, 91, 70]⟩, .string ⟨#[27, 91, 51, 126]⟩, .string ⟨#[27, 127]⟩, .string ⟨#[0]⟩] 9)) ⟨#[27, 91, 65]⟩ (by decide)).base zW
  have hb := (HB.out.1.alloc HB.out.2 _).trans ((below_conv (w4.alloc (.cells #[.string ⟨#[13]⟩, .string ⟨#[127]⟩, .string ⟨#[9]⟩, .string ⟨#[27]⟩, .string ⟨#[27, 91, 65]⟩, .string ⟨#[27, 91, 66]⟩, .string ⟨#[27, 91, 67]⟩, .string ⟨#[27, 91, 68]⟩, .string ⟨#[27, 91, 72]⟩, .string ⟨#[27, 91, 70]⟩, .string ⟨#[27, 91, 51, 126]⟩, .string ⟨#[27, 127]⟩, .string ⟨#[0]⟩] 9)) ⟨#[27, 91, 65]⟩).mono zW)
  have e9 : (w4.alloc (.cells #[.string ⟨#[13]⟩, .string ⟨#[127]⟩, .string ⟨#[9]⟩, .string ⟨#[27]⟩, .string ⟨#[27, 91, 65]⟩, .string ⟨#[27, 91, 66]⟩, .string ⟨#[27, 91, 67]⟩, .string ⟨#[27, 91, 68]⟩, .string ⟨#[27, 91, 72]⟩, .string ⟨#[27, 91, 70]⟩, .string ⟨#[27, 91, 51, 126]⟩, .string ⟨#[27, 127]⟩, .string ⟨#[0]⟩] 9)).heap.size = w4.heap.size + 1 := by simp
  rw [e9] at ho
  exact ⟨_, _, rfl, ho, by simp, hb⟩

set_option maxHeartbeats 4000000 in
theorem specKb_n5  (w : World) :
    Calls Tryd.prog 12 #[.agg #[.int .i64 9, .int .i64 0]] w fun e w' => ∃ o F, e = .returned o ∧ OwC w' w.heap.size o (snZ 5) F ∧ F.Nodup ∧ Below w.heap.size w w' := by
  have hF : kok 9 0 = true := rfl
  have qf : Hid (∀ w', Calls Tryd.prog 17 #[.agg #[.int .i64 9, .int .i64 0]] w' fun e w'' => e = .returned (.bool true) ∧ Below w'.heap.size w' w'') := fun w' => by have := specKok_any 9 0 w'; rw [hF] at this; exact this
  clear hF
  go_enter Tryd.func12, Tryd.ntmps12
  go_wp2_with fail
  obtain ⟨W1, hW1⟩ : ∃ U, U = w.alloc (.cells #[.int .i64 9, .int .i64 0] 25) := ⟨_, rfl⟩
  have b1 : Below w.heap.size w W1 := by rw [hW1]; exact (Below.refl _ _).alloc (Nat.le_refl _) _
  have i1 : W1.heap[w.heap.size]? = some (.cells #[.int .i64 9, .int .i64 0] 25 (0, 0)) := by rw [hW1]; exact heap_alloc_new w _
  have z1 : W1.heap.size = w.heap.size + 1 := by rw [hW1]; simp
  rw [← hW1]
  clear hW1
  refine (qf.out _).mono ?_
  rintro e w4 ⟨rfl, h2⟩
  have hz2 := h2.size
  have zl : w.heap.size < w4.heap.size := by omega
  have i4 := (h2.block _ (by omega)).trans i1
  have y0 : w4.cell? ⟨w.heap.size, 0, none⟩ = some (.int .i64 9) := box_cell i4 rfl
  have y1 : w4.cell? ⟨w.heap.size, 1, none⟩ = some (.int .i64 0) := box_cell i4 rfl
  have HB : Hid (Below w.heap.size w w4 ∧ w.heap.size ≤ w4.heap.size) := ⟨b1.trans (h2.mono b1.size), by omega⟩
  clear h2 b1 hz2 z1 i1 i4
  have hcv := fun W : World => Lib.run_convert_string_bytes (P := Tryd.prog) W 9 32 5 ⟨#[27, 91, 66]⟩ Tryd.underlying9 Tryd.underlying32 Tryd.underlying5
  go_wp2
  go_ret
  have zW : w.heap.size ≤ (w4.alloc (.cells #[.string ⟨#[13]⟩, .string ⟨#[127]⟩, .string ⟨#[9]⟩, .string ⟨#[27]⟩, .string ⟨#[27, 91, 65]⟩, .string ⟨#[27, 91, 66]⟩, .string ⟨#[27, 91, 67]⟩, .string ⟨#[27, 91, 68]⟩, .string ⟨#[27, 91, 72]⟩, .string ⟨#[27, 91, 70]⟩, .string ⟨#[27, 91, 51, 126]⟩, .string ⟨#[27, 127]⟩, .string ⟨#[0]⟩] 9)).heap.size := by simp; have := HB.out.2; omega
  have ho := (owC_conv (w4.alloc (.cells #[.string ⟨#[13]⟩, .string ⟨#[127]⟩, .string ⟨#[9]⟩, .string ⟨#[27]⟩, .string ⟨#[27, 91, 65]⟩, .string ⟨#[27, 91, 66]⟩, .string ⟨#[27, 91, 67]⟩, .string ⟨#[27, 91, 68]⟩, .string ⟨#[27, 91, 72]⟩, .string ⟨#[27, 91, 70]⟩, .string ⟨#[27, 91, 51, 126]⟩, .string ⟨#[27, 127]⟩, .string ⟨#[0]⟩] 9)) ⟨#[27, 91, 66]⟩ (by decide)).base zW
  have hb := (HB.out.1.alloc HB.out.2 _).trans ((below_conv (w4.alloc (.cells #[.string ⟨#[13]⟩, .string ⟨#[127]⟩, .string ⟨#[9]⟩, .string ⟨#[27]⟩, .string ⟨#[27, 91, 65]⟩, .string ⟨#[27, 91, 66]⟩, .string ⟨#[27, 91, 67]⟩, .string ⟨#[27, 91, 68]⟩, .string ⟨#[27, 91, 72]⟩, .string ⟨#[27, 91, 70]⟩, .string ⟨#[27, 91, 51, 126]⟩, .string ⟨#[27, 127]⟩, .string ⟨#[0]⟩] 9)) ⟨#[27, 91, 66]⟩).mono zW)
  have e9 : (w4.alloc (.cells #[.string ⟨#[13]⟩, .string ⟨#[127]⟩, .string ⟨#[9]⟩, .string ⟨#[27]⟩, .string ⟨#[27, 91, 65]⟩, .string ⟨#[27, 91, 66]⟩, .string ⟨#[27, 91, 67]⟩, .string ⟨#[27, 91, 68]⟩, .string ⟨#[27, 91, 72]⟩, .string ⟨#[27, 91, 70]⟩, .string ⟨#[27, 91, 51, 126]⟩, .string ⟨#[27, 127]⟩, .string ⟨#[0]⟩] 9)).heap.size = w4.heap.size + 1 := by simp
  rw [e9] at ho
  exact ⟨_, _, rfl, ho, by simp, hb⟩

set_option maxHeartbeats 4000000 in
theorem specKb_n6  (w : World) :
    Calls Tryd.prog 12 #[.agg #[.int .i64 10, .int .i64 0]] w fun e w' => ∃ o F, e = .returned o ∧ OwC w' w.heap.size o (snZ 6) F ∧ F.Nodup ∧ Below w.heap.size w w' := by
  have hF : kok 10 0 = true := rfl
  have qf : Hid (∀ w', Calls Tryd.prog 17 #[.agg #[.int .i64 10, .int .i64 0]] w' fun e w'' => e = .returned (.bool true) ∧ Below w'.heap.size w' w'') := fun w' => by have := specKok_any 10 0 w'; rw [hF] at this; exact this
  clear hF
  go_enter Tryd.func12, Tryd.ntmps12
  go_wp2_with fail
  obtain ⟨W1, hW1⟩ : ∃ U, U = w.alloc (.cells #[.int .i64 10, .int .i64 0] 25) := ⟨_, rfl⟩
  have b1 : Below w.heap.size w W1 := by rw [hW1]; exact (Below.refl _ _).alloc (Nat.le_refl _) _
  have i1 : W1.heap[w.heap.size]? = some (.cells #[.int .i64 10, .int .i64 0] 25 (0, 0)) := by rw [hW1]; exact heap_alloc_new w _
  have z1 : W1.heap.size = w.heap.size + 1 := by rw [hW1]; simp
  rw [← hW1]
  clear hW1
  refine (qf.out _).mono ?_
  rintro e w4 ⟨rfl, h2⟩
  have hz2 := h2.size
  have zl : w.heap.size < w4.heap.size := by omega
  have i4 := (h2.block _ (by omega)).trans i1
  have y0 : w4.cell? ⟨w.heap.size, 0, none⟩ = some (.int .i64 10) := box_cell i4 rfl
  have y1 : w4.cell? ⟨w.heap.size, 1, none⟩ = some (.int .i64 0) := box_cell i4 rfl
  have HB : Hid (Below w.heap.size w w4 ∧ w.heap.size ≤ w4.heap.size) := ⟨b1.trans (h2.mono b1.size), by omega⟩
  clear h2 b1 hz2 z1 i1 i4
  have hcv := fun W : World => Lib.run_convert_string_bytes (P := Tryd.prog) W 9 32 5 ⟨#[27, 91, 67]⟩ Tryd.underlying9 Tryd.underlying32 Tryd.underlying5
  go_wp2
  go_ret
  have zW : w.heap.size ≤ (w4.alloc (.cells #[.string ⟨#[13]⟩, .string ⟨#[127]⟩, .string ⟨#[9]⟩, .string ⟨#[27]⟩, .string ⟨#[27, 91, 65]⟩, .string ⟨#[27, 91, 66]⟩, .string ⟨#[27, 91, 67]⟩, .string ⟨#[27, 91, 68]⟩, .string ⟨#[27, 91, 72]⟩, .string ⟨#[27, 91, 70]⟩, .string ⟨#[27, 91, 51, 126]⟩, .string ⟨#[27, 127]⟩, .string ⟨#[0]⟩] 9)).heap.size := by simp; have := HB.out.2; omega
  have ho := (owC_conv (w4.alloc (.cells #[.string ⟨#[13]⟩, .string ⟨#[127]⟩, .string ⟨#[9]⟩, .string ⟨#[27]⟩, .string ⟨#[27, 91, 65]⟩, .string ⟨#[27, 91, 66]⟩, .string ⟨#[27, 91, 67]⟩, .string ⟨#[27, 91, 68]⟩, .string ⟨#[27, 91, 72]⟩, .string ⟨#[27, 91, 70]⟩, .string ⟨#[27, 91, 51, 126]⟩, .string ⟨#[27, 127]⟩, .string ⟨#[0]⟩] 9)) ⟨#[27, 91, 67]⟩ (by decide)).base zW
  have hb := (HB.out.1.alloc HB.out.2 _).trans ((below_conv (w4.alloc (.cells #[.string ⟨#[13]⟩, .string ⟨#[127]⟩, .string ⟨#[9]⟩, .string ⟨#[27]⟩, .string ⟨#[27, 91, 65]⟩, .string ⟨#[27, 91, 66]⟩, .string ⟨#[27, 91, 67]⟩, .string ⟨#[27, 91, 68]⟩, .string ⟨#[27, 91, 72]⟩, .string ⟨#[27, 91, 70]⟩, .string ⟨#[27, 91, 51, 126]⟩, .string ⟨#[27, 127]⟩, .string ⟨#[0]⟩] 9)) ⟨#[27, 91, 67]⟩).mono zW)
  have e9 : (w4.alloc (.cells #[.string ⟨#[13]⟩, .string ⟨#[127]⟩, .string ⟨#[9]⟩, .string ⟨#[27]⟩, .string ⟨#[27, 91, 65]⟩, .string ⟨#[27, 91, 66]⟩, .string ⟨#[27, 91, 67]⟩, .string ⟨#[27, 91, 68]⟩, .string ⟨#[27, 91, 72]⟩, .string ⟨#[27, 91, 70]⟩, .string ⟨#[27, 91, 51, 126]⟩, .string ⟨#[27, 127]⟩, .string ⟨#[0]⟩] 9)).heap.size = w4.heap.size + 1 := by simp
  rw [e9] at ho
  exact ⟨_, _, rfl, ho, by simp, hb⟩

set_option maxHeartbeats 4000000 in
theorem specKb_n7  (w : World) :
    Calls Tryd.prog 12 #[.agg #[.int .i64 11, .int .i64 0]] w fun e w' => ∃ o F, e = .returned o ∧ OwC w' w.heap.size o (snZ 7) F ∧ F.Nodup ∧ Below w.heap.size w w' := by
  have hF : kok 11 0 = true := rfl
  have qf : Hid (∀ w', Calls Tryd.prog 17 #[.agg #[.int .i64 11, .int .i64 0]] w' fun e w'' => e = .returned (.bool true) ∧ Below w'.heap.size w' w'') := fun w' => by have := specKok_any 11 0 w'; rw [hF] at this; exact this
  clear hF
  go_enter Tryd.func12, Tryd.ntmps12
  go_wp2_with fail
  obtain ⟨W1, hW1⟩ : ∃ U, U = w.alloc (.cells #[.int .i64 11, .int .i64 0] 25) := ⟨_, rfl⟩
  have b1 : Below w.heap.size w W1 := by rw [hW1]; exact (Below.refl _ _).alloc (Nat.le_refl _) _
  have i1 : W1.heap[w.heap.size]? = some (.cells #[.int .i64 11, .int .i64 0] 25 (0, 0)) := by rw [hW1]; exact heap_alloc_new w _
  have z1 : W1.heap.size = w.heap.size + 1 := by rw [hW1]; simp
  rw [← hW1]
  clear hW1
  refine (qf.out _).mono ?_
  rintro e w4 ⟨rfl, h2⟩
  have hz2 := h2.size
  have zl : w.heap.size < w4.heap.size := by omega
  have i4 := (h2.block _ (by omega)).trans i1
  have y0 : w4.cell? ⟨w.heap.size, 0, none⟩ = some (.int .i64 11) := box_cell i4 rfl
  have y1 : w4.cell? ⟨w.heap.size, 1, none⟩ = some (.int .i64 0) := box_cell i4 rfl
  have HB : Hid (Below w.heap.size w w4 ∧ w.heap.size ≤ w4.heap.size) := ⟨b1.trans (h2.mono b1.size), by omega⟩
  clear h2 b1 hz2 z1 i1 i4
  have hcv := fun W : World => Lib.run_convert_string_bytes (P := Tryd.prog) W 9 32 5 ⟨#[27, 91, 68]⟩ Tryd.underlying9 Tryd.underlying32 Tryd.underlying5
  go_wp2
  go_ret
  have zW : w.heap.size ≤ (w4.alloc (.cells #[.string ⟨#[13]⟩, .string ⟨#[127]⟩, .string ⟨#[9]⟩, .string ⟨#[27]⟩, .string ⟨#[27, 91, 65]⟩, .string ⟨#[27, 91, 66]⟩, .string ⟨#[27, 91, 67]⟩, .string ⟨#[27, 91, 68]⟩, .string ⟨#[27, 91, 72]⟩, .string ⟨#[27, 91, 70]⟩, .string ⟨#[27, 91, 51, 126]⟩, .string ⟨#[27, 127]⟩, .string ⟨#[0]⟩] 9)).heap.size := by simp; have := HB.out.2; omega
  have ho := (owC_conv (w4.alloc (.cells #[.string ⟨#[13]⟩, .string ⟨#[127]⟩, .string ⟨#[9]⟩, .string ⟨#[27]⟩, .string ⟨#[27, 91, 65]⟩, .string ⟨#[27, 91, 66]⟩, .string ⟨#[27, 91, 67]⟩, .string ⟨#[27, 91, 68]⟩, .string ⟨#[27, 91, 72]⟩, .string ⟨#[27, 91, 70]⟩, .string ⟨#[27, 91, 51, 126]⟩, .string ⟨#[27, 127]⟩, .string ⟨#[0]⟩] 9)) ⟨#[27, 91, 68]⟩ (by decide)).base zW
  have hb := (HB.out.1.alloc HB.out.2 _).trans ((below_conv (w4.alloc (.cells #[.string ⟨#[13]⟩, .string ⟨#[127]⟩, .string ⟨#[9]⟩, .string ⟨#[27]⟩, .string ⟨#[27, 91, 65]⟩, .string ⟨#[27, 91, 66]⟩, .string ⟨#[27, 91, 67]⟩, .string ⟨#[27, 91, 68]⟩, .string ⟨#[27, 91, 72]⟩, .string ⟨#[27, 91, 70]⟩, .string ⟨#[27, 91, 51, 126]⟩, .string ⟨#[27, 127]⟩, .string ⟨#[0]⟩] 9)) ⟨#[27, 91, 68]⟩).mono zW)
  have e9 : (w4.alloc (.cells #[.string ⟨#[13]⟩, .string ⟨#[127]⟩, .string ⟨#[9]⟩, .string ⟨#[27]⟩, .string ⟨#[27, 91, 65]⟩, .string ⟨#[27, 91, 66]⟩, .string ⟨#[27, 91, 67]⟩, .string ⟨#[27, 91, 68]⟩, .string ⟨#[27, 91, 72]⟩, .string ⟨#[27, 91, 70]⟩, .string ⟨#[27, 91, 51, 126]⟩, .string ⟨#[27, 127]⟩, .string ⟨#[0]⟩] 9)).heap.size = w4.heap.size + 1 := by simp
  rw [e9] at ho
  exact ⟨_, _, rfl, ho, by simp, hb⟩

set_option maxHeartbeats 4000000 in
theorem specKb_n8  (w : World) :
    Calls Tryd.prog 12 #[.agg #[.int .i64 12, .int .i64 0]] w fun e w' => ∃ o F, e = .returned o ∧ OwC w' w.heap.size o (snZ 8) F ∧ F.Nodup ∧ Below w.heap.size w w' := by
  have hF : kok 12 0 = true := rfl
  have qf : Hid (∀ w', Calls Tryd.prog 17 #[.agg #[.int .i64 12, .int .i64 0]] w' fun e w'' => e = .returned (.bool true) ∧ Below w'.heap.size w' w'') := fun w' => by have := specKok_any 12 0 w'; rw [hF] at this; exact this
  clear hF
  go_enter Tryd.func12, Tryd.ntmps12
  go_wp2_with fail
  obtain ⟨W1, hW1⟩ : ∃ U, U = w.alloc (.cells #[.int .i64 12, .int .i64 0] 25) := ⟨_, rfl⟩
  have b1 : Below w.heap.size w W1 := by rw [hW1]; exact (Below.refl _ _).alloc (Nat.le_refl _) _
  have i1 : W1.heap[w.heap.size]? = some (.cells #[.int .i64 12, .int .i64 0] 25 (0, 0)) := by rw [hW1]; exact heap_alloc_new w _
  have z1 : W1.heap.size = w.heap.size + 1 := by rw [hW1]; simp
  rw [← hW1]
  clear hW1
  refine (qf.out _).mono ?_
  rintro e w4 ⟨rfl, h2⟩
  have hz2 := h2.size
  have zl : w.heap.size < w4.heap.size := by omega
  have i4 := (h2.block _ (by omega)).trans i1
  have y0 : w4.cell? ⟨w.heap.size, 0, none⟩ = some (.int .i64 12) := box_cell i4 rfl
  have y1 : w4.cell? ⟨w.heap.size, 1, none⟩ = some (.int .i64 0) := box_cell i4 rfl
  have HB : Hid (Below w.heap.size w w4 ∧ w.heap.size ≤ w4.heap.size) := ⟨b1.trans (h2.mono b1.size), by omega⟩
  clear h2 b1 hz2 z1 i1 i4
  have hcv := fun W : World => Lib.run_convert_string_bytes (P := Tryd.prog) W 9 32 5 ⟨#[27, 91, 72]⟩ Tryd.underlying9 Tryd.underlying32 Tryd.underlying5
  go_wp2
  go_ret
  have zW : w.heap.size ≤ (w4.alloc (.cells #[.string ⟨#[13]⟩, .string ⟨#[127]⟩, .string ⟨#[9]⟩, .string ⟨#[27]⟩, .string ⟨#[27, 91, 65]⟩, .string ⟨#[27, 91, 66]⟩, .string ⟨#[27, 91, 67]⟩, .string ⟨#[27, 91, 68]⟩, .string ⟨#[27, 91, 72]⟩, .string ⟨#[27, 91, 70]⟩, .string ⟨#[27, 91, 51, 126]⟩, .string ⟨#[27, 127]⟩, .string ⟨#[0]⟩] 9)).heap.size := by simp; have := HB.out.2; omega
  have ho := (owC_conv (w4.alloc (.cells #[.string ⟨#[13]⟩, .string ⟨#[127]⟩, .string ⟨#[9]⟩, .string ⟨#[27]⟩, .string ⟨#[27, 91, 65]⟩, .string ⟨#[27, 91, 66]⟩, .string ⟨#[27, 91, 67]⟩, .string ⟨#[27, 91, 68]⟩, .string ⟨#[27, 91, 72]⟩, .string ⟨#[27, 91, 70]⟩, .string ⟨#[27, 91, 51, 126]⟩, .string ⟨#[27, 127]⟩, .string ⟨#[0]⟩] 9)) ⟨#[27, 91, 72]⟩ (by decide)).base zW
  have hb := (HB.out.1.alloc HB.out.2 _).trans ((below_conv (w4.alloc (.cells #[.string ⟨#[13]⟩, .string ⟨#[127]⟩, .string ⟨#[9]⟩, .string ⟨#[27]⟩, .string ⟨#[27, 91, 65]⟩, .string ⟨#[27, 91, 66]⟩, .string ⟨#[27, 91, 67]⟩, .string ⟨#[27, 91, 68]⟩, .string ⟨#[27, 91, 72]⟩, .string ⟨#[27, 91, 70]⟩, .string ⟨#[27, 91, 51, 126]⟩, .string ⟨#[27, 127]⟩, .string ⟨#[0]⟩] 9)) ⟨#[27, 91, 72]⟩).mono zW)
  have e9 : (w4.alloc (.cells #[.string ⟨#[13]⟩, .string ⟨#[127]⟩, .string ⟨#[9]⟩, .string ⟨#[27]⟩, .string ⟨#[27, 91, 65]⟩, .string ⟨#[27, 91, 66]⟩, .string ⟨#[27, 91, 67]⟩, .string ⟨#[27, 91, 68]⟩, .string ⟨#[27, 91, 72]⟩, .string ⟨#[27, 91, 70]⟩, .string ⟨#[27, 91, 51, 126]⟩, .string ⟨#[27, 127]⟩, .string ⟨#[0]⟩] 9)).heap.size = w4.heap.size + 1 := by simp
  rw [e9] at ho
  exact ⟨_, _, rfl, ho, by simp, hb⟩

set_option maxHeartbeats 4000000 in
theorem specKb_n9  (w : World) :
    Calls Tryd.prog 12 #[.agg #[.int .i64 13, .int .i64 0]] w fun e w' => ∃ o F, e = .returned o ∧ OwC w' w.heap.size o (snZ 9) F ∧ F.Nodup ∧ Below w.heap.size w w' := by
  have hF : kok 13 0 = true := rfl
  have qf : Hid (∀ w', Calls Tryd.prog 17 #[.agg #[.int .i64 13, .int .i64 0]] w' fun e w'' => e = .returned (.bool true) ∧ Below w'.heap.size w' w'') := fun w' => by have := specKok_any 13 0 w'; rw [hF] at this; exact this
  clear hF
  go_enter Tryd.func12, Tryd.ntmps12
  go_wp2_with fail
  obtain ⟨W1, hW1⟩ : ∃ U, U = w.alloc (.cells #[.int .i64 13, .int .i64 0] 25) := ⟨_, rfl⟩
  have b1 : Below w.heap.size w W1 := by rw [hW1]; exact (Below.refl _ _).alloc (Nat.le_refl _) _
  have i1 : W1.heap[w.heap.size]? = some (.cells #[.int .i64 13, .int .i64 0] 25 (0, 0)) := by rw [hW1]; exact heap_alloc_new w _
  have z1 : W1.heap.size = w.heap.size + 1 := by rw [hW1]; simp
  rw [← hW1]
  clear hW1
  refine (qf.out _).mono ?_
  rintro e w4 ⟨rfl, h2⟩
  have hz2 := h2.size
  have zl : w.heap.size < w4.heap.size := by omega
  have i4 := (h2.block _ (by omega)).trans i1
  have y0 : w4.cell? ⟨w.heap.size, 0, none⟩ = some (.int .i64 13) := box_cell i4 rfl
  have y1 : w4.cell? ⟨w.heap.size, 1, none⟩ = some (.int .i64 0) := box_cell i4 rfl
  have HB : Hid (Below w.heap.size w w4 ∧ w.heap.size ≤ w4.heap.size) := ⟨b1.trans (h2.mono b1.size), by omega⟩
  clear h2 b1 hz2 z1 i1 i4
  have hcv := fun W : World => Lib.run_convert_string_bytes (P := Tryd.prog) W 9 32 5 ⟨#[27, 91, 70]⟩ Tryd.underlying9 Tryd.underlying32 Tryd.underlying5
  go_wp2
  go_ret
  have zW : w.heap.size ≤ (w4.alloc (.cells #[.string ⟨#[13]⟩, .string ⟨#[127]⟩, .string ⟨#[9]⟩, .string ⟨#[27]⟩, .string ⟨#[27, 91, 65]⟩, .string ⟨#[27, 91, 66]⟩, .string ⟨#[27, 91, 67]⟩, .string ⟨#[27, 91, 68]⟩, .string ⟨#[27, 91, 72]⟩, .string ⟨#[27, 91, 70]⟩, .string ⟨#[27, 91, 51, 126]⟩, .string ⟨#[27, 127]⟩, .string ⟨#[0]⟩] 9)).heap.size := by simp; have := HB.out.2; omega
  have ho := (owC_conv (w4.alloc (.cells #[.string ⟨#[13]⟩, .string ⟨#[127]⟩, .string ⟨#[9]⟩, .string ⟨#[27]⟩, .string ⟨#[27, 91, 65]⟩, .string ⟨#[27, 91, 66]⟩, .string ⟨#[27, 91, 67]⟩, .string ⟨#[27, 91, 68]⟩, .string ⟨#[27, 91, 72]⟩, .string ⟨#[27, 91, 70]⟩, .string ⟨#[27, 91, 51, 126]⟩, .string ⟨#[27, 127]⟩, .string ⟨#[0]⟩] 9)) ⟨#[27, 91, 70]⟩ (by decide)).base zW
  have hb := (HB.out.1.alloc HB.out.2 _).trans ((below_conv (w4.alloc (.cells #[.string ⟨#[13]⟩, .string ⟨#[127]⟩, .string ⟨#[9]⟩, .string ⟨#[27]⟩, .string ⟨#[27, 91, 65]⟩, .string ⟨#[27, 91, 66]⟩, .string ⟨#[27, 91, 67]⟩, .string ⟨#[27, 91, 68]⟩, .string ⟨#[27, 91, 72]⟩, .string ⟨#[27, 91, 70]⟩, .string ⟨#[27, 91, 51, 126]⟩, .string ⟨#[27, 127]⟩, .string ⟨#[0]⟩] 9)) ⟨#[27, 91, 70]⟩).mono zW)
  have e9 : (w4.alloc (.cells #[.string ⟨#[13]⟩, .string ⟨#[127]⟩, .string ⟨#[9]⟩, .string ⟨#[27]⟩, .string ⟨#[27, 91, 65]⟩, .string ⟨#[27, 91, 66]⟩, .string ⟨#[27, 91, 67]⟩, .string ⟨#[27, 91, 68]⟩, .string ⟨#[27, 91, 72]⟩, .string ⟨#[27, 91, 70]⟩, .string ⟨#[27, 91, 51, 126]⟩, .string ⟨#[27, 127]⟩, .string ⟨#[0]⟩] 9)).heap.size = w4.heap.size + 1 := by simp
  rw [e9] at ho
  exact ⟨_, _, rfl, ho, by simp, hb⟩

set_option maxHeartbeats 4000000 in
theorem specKb_n10  (w : World) :
    Calls Tryd.prog 12 #[.agg #[.int .i64 14, .int .i64 0]] w fun e w' => ∃ o F, e = .returned o ∧ OwC w' w.heap.size o (snZ 10) F ∧ F.Nodup ∧ Below w.heap.size w w' := by
  have hF : kok 14 0 = true := rfl
  have qf : Hid (∀ w', Calls Tryd.prog 17 #[.agg #[.int .i64 14, .int .i64 0]] w' fun e w'' => e = .returned (.bool true) ∧ Below w'.heap.size w' w'') := fun w' => by have := specKok_any 14 0 w'; rw [hF] at this; exact this
  clear hF
  go_enter Tryd.func12, Tryd.ntmps12
  go_wp2_with fail
  obtain ⟨W1, hW1⟩ : ∃ U, U = w.alloc (.cells #[.int .i64 14, .int .i64 0] 25) := ⟨_, rfl⟩
  have b1 : Below w.heap.size w W1 := by rw [hW1]; exact (Below.refl _ _).alloc (Nat.le_refl _) _
  have i1 : W1.heap[w.heap.size]? = some (.cells #[.int .i64 14, .int .i64 0] 25 (0, 0)) := by rw [hW1]; exact heap_alloc_new w _
  have z1 : W1.heap.size = w.heap.size + 1 := by rw [hW1]; simp
  rw [← hW1]
  clear hW1
  refine (qf.out _).mono ?_
  rintro e w4 ⟨rfl, h2⟩
  have hz2 := h2.size
  have zl : w.heap.size < w4.heap.size := by omega
  have i4 := (h2.block _ (by omega)).trans i1
  have y0 : w4.cell? ⟨w.heap.size, 0, none⟩ = some (.int .i64 14) := box_cell i4 rfl
  have y1 : w4.cell? ⟨w.heap.size, 1, none⟩ = some (.int .i64 0) := box_cell i4 rfl
  have HB : Hid (Below w.heap.size w w4 ∧ w.heap.size ≤ w4.heap.size) := ⟨b1.trans (h2.mono b1.size), by omega⟩
  clear h2 b1 hz2 z1 i1 i4
  have hcv := fun W : World => Lib.run_convert_string_bytes (P := Tryd.prog) W 9 32 5 ⟨#[27, 91, 51, 126]⟩ Tryd.underlying9 Tryd.underlying32 Tryd.underlying5
  go_wp2
  go_ret
  have zW : w.heap.size ≤ (w4.alloc (.cells #[.string ⟨#[13]⟩, .string ⟨#[127]⟩, .string ⟨#[9]⟩, .string ⟨#[27]⟩, .string ⟨#[27, 91, 65]⟩, .string ⟨#[27, 91, 66]⟩, .string ⟨#[27, 91, 67]⟩, .string ⟨#[27, 91, 68]⟩, .string ⟨#[27, 91, 72]⟩, .string ⟨#[27, 91, 70]⟩, .string ⟨#[27, 91, 51, 126]⟩, .string ⟨#[27, 127]⟩, .string ⟨#[0]⟩] 9)).heap.size := by simp; have := HB.out.2; omega
  have ho := (owC_conv (w4.alloc (.cells #[.string ⟨#[13]⟩, .string ⟨#[127]⟩, .string ⟨#[9]⟩, .string ⟨#[27]⟩, .string ⟨#[27, 91, 65]⟩, .string ⟨#[27, 91, 66]⟩, .string ⟨#[27, 91, 67]⟩, .string ⟨#[27, 91, 68]⟩, .string ⟨#[27, 91, 72]⟩, .string ⟨#[27, 91, 70]⟩, .string ⟨#[27, 91, 51, 126]⟩, .string ⟨#[27, 127]⟩, .string ⟨#[0]⟩] 9)) ⟨#[27, 91, 51, 126]⟩ (by decide)).base zW
  have hb := (HB.out.1.alloc HB.out.2 _).trans ((below_conv (w4.alloc (.cells #[.string ⟨#[13]⟩, .string ⟨#[127]⟩, .string ⟨#[9]⟩, .string ⟨#[27]⟩, .string ⟨#[27, 91, 65]⟩, .string ⟨#[27, 91, 66]⟩, .string ⟨#[27, 91, 67]⟩, .string ⟨#[27, 91, 68]⟩, .string ⟨#[27, 91, 72]⟩, .string ⟨#[27, 91, 70]⟩, .string ⟨#[27, 91, 51, 126]⟩, .string ⟨#[27, 127]⟩, .string ⟨#[0]⟩] 9)) ⟨#[27, 91, 51, 126]⟩).mono zW)
  have e9 : (w4.alloc (.cells #[.string ⟨#[13]⟩, .string ⟨#[127]⟩, .string ⟨#[9]⟩, .string ⟨#[27]⟩, .string ⟨#[27, 91, 65]⟩, .string ⟨#[27, 91, 66]⟩, .string ⟨#[27, 91, 67]⟩, .string ⟨#[27, 91, 68]⟩, .string ⟨#[27, 91, 72]⟩, .string ⟨#[27, 91, 70]⟩, .string ⟨#[27, 91, 51, 126]⟩, .string ⟨#[27, 127]⟩, .string ⟨#[0]⟩] 9)).heap.size = w4.heap.size + 1 := by simp
  rw [e9] at ho
  exact ⟨_, _, rfl, ho, by simp, hb⟩

set_option maxHeartbeats 4000000 in
theorem specKb_n11  (w : World) :
    Calls Tryd.prog 12 #[.agg #[.int .i64 15, .int .i64 0]] w fun e w' => ∃ o F, e = .returned o ∧ OwC w' w.heap.size o (snZ 11) F ∧ F.Nodup ∧ Below w.heap.size w w' := by
  have hF : kok 15 0 = true := rfl
  have qf : Hid (∀ w', Calls Tryd.prog 17 #[.agg #[.int .i64 15, .int .i64 0]] w' fun e w'' => e = .returned (.bool true) ∧ Below w'.heap.size w' w'') := fun w' => by have := specKok_any 15 0 w'; rw [hF] at this; exact this
  clear hF
  go_enter Tryd.func12, Tryd.ntmps12
  go_wp2_with fail
  obtain ⟨W1, hW1⟩ : ∃ U, U = w.alloc (.cells #[.int .i64 15, .int .i64 0] 25) := ⟨_, rfl⟩
  have b1 : Below w.heap.size w W1 := by rw [hW1]; exact (Below.refl _ _).alloc (Nat.le_refl _) _
  have i1 : W1.heap[w.heap.size]? = some (.cells #[.int .i64 15, .int .i64 0] 25 (0, 0)) := by rw [hW1]; exact heap_alloc_new w _
  have z1 : W1.heap.size = w.heap.size + 1 := by rw [hW1]; simp
  rw [← hW1]
  clear hW1
  refine (qf.out _).mono ?_
  rintro e w4 ⟨rfl, h2⟩
  have hz2 := h2.size
  have zl : w.heap.size < w4.heap.size := by omega
  have i4 := (h2.block _ (by omega)).trans i1
  have y0 : w4.cell? ⟨w.heap.size, 0, none⟩ = some (.int .i64 15) := box_cell i4 rfl
  have y1 : w4.cell? ⟨w.heap.size, 1, none⟩ = some (.int .i64 0) := box_cell i4 rfl
  have HB : Hid (Below w.heap.size w w4 ∧ w.heap.size ≤ w4.heap.size) := ⟨b1.trans (h2.mono b1.size), by omega⟩
  clear h2 b1 hz2 z1 i1 i4
  have hcv := fun W : World => Lib.run_convert_string_bytes (P := Tryd.prog) W 9 32 5 ⟨#[27, 127]⟩ Tryd.underlying9 Tryd.underlying32 Tryd.underlying5
  go_wp2
  go_ret
  have zW : w.heap.size ≤ (w4.alloc (.cells #[.string ⟨#[13]⟩, .string ⟨#[127]⟩, .string ⟨#[9]⟩, .string ⟨#[27]⟩, .string ⟨#[27, 91, 65]⟩, .string ⟨#[27, 91, 66]⟩, .string ⟨#[27, 91, 67]⟩, .string ⟨#[27, 91, 68]⟩, .string ⟨#[27, 91, 72]⟩, .string ⟨#[27, 91, 70]⟩, .string ⟨#[27, 91, 51, 126]⟩, .string ⟨#[27, 127]⟩, .string ⟨#[0]⟩] 9)).heap.size := by simp; have := HB.out.2; omega
  have ho := (owC_conv (w4.alloc (.cells #[.string ⟨#[13]⟩, .string ⟨#[127]⟩, .string ⟨#[9]⟩, .string ⟨#[27]⟩, .string ⟨#[27, 91, 65]⟩, .string ⟨#[27, 91, 66]⟩, .string ⟨#[27, 91, 67]⟩, .string ⟨#[27, 91, 68]⟩, .string ⟨#[27, 91, 72]⟩, .string ⟨#[27, 91, 70]⟩, .string ⟨#[27, 91, 51, 126]⟩, .string ⟨#[27, 127]⟩, .string ⟨#[0]⟩] 9)) ⟨#[27, 127]⟩ (by decide)).base zW
  have hb := (HB.out.1.alloc HB.out.2 _).trans ((below_conv (w4.alloc (.cells #[.string ⟨#[13]⟩, .string ⟨#[127]⟩, .string ⟨#[9]⟩, .string ⟨#[27]⟩, .string ⟨#[27, 91, 65]⟩, .string ⟨#[27, 91, 66]⟩, .string ⟨#[27, 91, 67]⟩, .string ⟨#[27, 91, 68]⟩, .string ⟨#[27, 91, 72]⟩, .string ⟨#[27, 91, 70]⟩, .string ⟨#[27, 91, 51, 126]⟩, .string ⟨#[27, 127]⟩, .string ⟨#[0]⟩] 9)) ⟨#[27, 127]⟩).mono zW)
  have e9 : (w4.alloc (.cells #[.string ⟨#[13]⟩, .string ⟨#[127]⟩, .string ⟨#[9]⟩, .string ⟨#[27]⟩, .string ⟨#[27, 91, 65]⟩, .string ⟨#[27, 91, 66]⟩, .string ⟨#[27, 91, 67]⟩, .string ⟨#[27, 91, 68]⟩, .string ⟨#[27, 91, 72]⟩, .string ⟨#[27, 91, 70]⟩, .string ⟨#[27, 91, 51, 126]⟩, .string ⟨#[27, 127]⟩, .string ⟨#[0]⟩] 9)).heap.size = w4.heap.size + 1 := by simp
  rw [e9] at ho
  exact ⟨_, _, rfl, ho, by simp, hb⟩

set_option maxHeartbeats 4000000 in
theorem specKb_n12  (w : World) :
    Calls Tryd.prog 12 #[.agg #[.int .i64 16, .int .i64 0]] w fun e w' => ∃ o F, e = .returned o ∧ OwC w' w.heap.size o (snZ 12) F ∧ F.Nodup ∧ Below w.heap.size w w' := by
  have hF : kok 16 0 = true := rfl
  have qf : Hid (∀ w', Calls Tryd.prog 17 #[.agg #[.int .i64 16, .int .i64 0]] w' fun e w'' => e = .returned (.bool true) ∧ Below w'.heap.size w' w'') := fun w' => by have := specKok_any 16 0 w'; rw [hF] at this; exact this
  clear hF
  go_enter Tryd.func12, Tryd.ntmps12
  go_wp2_with fail
  obtain ⟨W1, hW1⟩ : ∃ U, U = w.alloc (.cells #[.int .i64 16, .int .i64 0] 25) := ⟨_, rfl⟩
  have b1 : Below w.heap.size w W1 := by rw [hW1]; exact (Below.refl _ _).alloc (Nat.le_refl _) _
  have i1 : W1.heap[w.heap.size]? = some (.cells #[.int .i64 16, .int .i64 0] 25 (0, 0)) := by rw [hW1]; exact heap_alloc_new w _
  have z1 : W1.heap.size = w.heap.size + 1 := by rw [hW1]; simp
  rw [← hW1]
  clear hW1
  refine (qf.out _).mono ?_
  rintro e w4 ⟨rfl, h2⟩
  have hz2 := h2.size
  have zl : w.heap.size < w4.heap.size := by omega
  have i4 := (h2.block _ (by omega)).trans i1
  have y0 : w4.cell? ⟨w.heap.size, 0, none⟩ = some (.int .i64 16) := box_cell i4 rfl
  have y1 : w4.cell? ⟨w.heap.size, 1, none⟩ = some (.int .i64 0) := box_cell i4 rfl
  have HB : Hid (Below w.heap.size w w4 ∧ w.heap.size ≤ w4.heap.size) := ⟨b1.trans (h2.mono b1.size), by omega⟩
  clear h2 b1 hz2 z1 i1 i4
  have hcv := fun W : World => Lib.run_convert_string_bytes (P := Tryd.prog) W 9 32 5 ⟨#[0]⟩ Tryd.underlying9 Tryd.underlying32 Tryd.underlying5
  go_wp2
  go_ret
  have zW : w.heap.size ≤ (w4.alloc (.cells #[.string ⟨#[13]⟩, .string ⟨#[127]⟩, .string ⟨#[9]⟩, .string ⟨#[27]⟩, .string ⟨#[27, 91, 65]⟩, .string ⟨#[27, 91, 66]⟩, .string ⟨#[27, 91, 67]⟩, .string ⟨#[27, 91, 68]⟩, .string ⟨#[27, 91, 72]⟩, .string ⟨#[27, 91, 70]⟩, .string ⟨#[27, 91, 51, 126]⟩, .string ⟨#[27, 127]⟩, .string ⟨#[0]⟩] 9)).heap.size := by simp; have := HB.out.2; omega
  have ho := (owC_conv (w4.alloc (.cells #[.string ⟨#[13]⟩, .string ⟨#[127]⟩, .string ⟨#[9]⟩, .string ⟨#[27]⟩, .string ⟨#[27, 91, 65]⟩, .string ⟨#[27, 91, 66]⟩, .string ⟨#[27, 91, 67]⟩, .string ⟨#[27, 91, 68]⟩, .string ⟨#[27, 91, 72]⟩, .string ⟨#[27, 91, 70]⟩, .string ⟨#[27, 91, 51, 126]⟩, .string ⟨#[27, 127]⟩, .string ⟨#[0]⟩] 9)) ⟨#[0]⟩ (by decide)).base zW
  have hb := (HB.out.1.alloc HB.out.2 _).trans ((below_conv (w4.alloc (.cells #[.string ⟨#[13]⟩, .string ⟨#[127]⟩, .string ⟨#[9]⟩, .string ⟨#[27]⟩, .string ⟨#[27, 91, 65]⟩, .string ⟨#[27, 91, 66]⟩, .string ⟨#[27, 91, 67]⟩, .string ⟨#[27, 91, 68]⟩, .string ⟨#[27, 91, 72]⟩, .string ⟨#[27, 91, 70]⟩, .string ⟨#[27, 91, 51, 126]⟩, .string ⟨#[27, 127]⟩, .string ⟨#[0]⟩] 9)) ⟨#[0]⟩).mono zW)
  have e9 : (w4.alloc (.cells #[.string ⟨#[13]⟩, .string ⟨#[127]⟩, .string ⟨#[9]⟩, .string ⟨#[27]⟩, .string ⟨#[27, 91, 65]⟩, .string ⟨#[27, 91, 66]⟩, .string ⟨#[27, 91, 67]⟩, .string ⟨#[27, 91, 68]⟩, .string ⟨#[27, 91, 72]⟩, .string ⟨#[27, 91, 70]⟩, .string ⟨#[27, 91, 51, 126]⟩, .string ⟨#[27, 127]⟩, .string ⟨#[0]⟩] 9)).heap.size = w4.heap.size + 1 := by simp
  rw [e9] at ho
  exact ⟨_, _, rfl, ho, by simp, hb⟩

theorem specKb_any (k r : Int) (w : World) :
    Calls Tryd.prog 12 #[.agg #[.int .i64 k, .int .i64 r]] w fun e w' => ∃ o F, e = .returned o ∧ OwC w' w.heap.size o (kby k r) F ∧ F.Nodup ∧ Below w.heap.size w w' := by
  rcases kb_cases k r with ⟨h, e⟩ | ⟨h, e⟩ | ⟨h, e, hr⟩ | ⟨h, e, h1, h2⟩ | ⟨rfl, h⟩
  · rw [e]; exact specKb_0 k r (by unfold kok; rw [h]; rfl) w
  · obtain rfl := kForm_1 h; rw [e]; exact specKb_1 r (by unfold kok; rw [h]; rfl) w
  · obtain rfl := kForm_2 h; rw [e]; clear e; rcases hr with rfl | rfl | rfl | rfl | rfl | rfl | rfl | rfl | rfl | rfl | rfl | rfl | rfl | rfl | rfl | rfl | rfl | rfl | rfl | rfl | rfl | rfl | rfl
    · exact specKb_2_95 w
    · exact specKb_2_97 w
    · exact specKb_2_98 w
    · exact specKb_2_99 w
    · exact specKb_2_100 w
    · exact specKb_2_101 w
    · exact specKb_2_102 w
    · exact specKb_2_103 w
    · exact specKb_2_107 w
    · exact specKb_2_108 w
    · exact specKb_2_110 w
    · exact specKb_2_111 w
    · exact specKb_2_112 w
    · exact specKb_2_113 w
    · exact specKb_2_114 w
    · exact specKb_2_115 w
    · exact specKb_2_116 w
    · exact specKb_2_117 w
    · exact specKb_2_118 w
    · exact specKb_2_119 w
    · exact specKb_2_120 w
    · exact specKb_2_121 w
    · exact specKb_2_122 w
  · obtain rfl := kForm_3 h; rw [e]; exact specKb_3 r (by unfold kok; rw [h]; rfl) h1 h2 w
  · rcases h with rfl | rfl | rfl | rfl | rfl | rfl | rfl | rfl | rfl | rfl | rfl | rfl | rfl
    · exact specKb_n0 w
    · exact specKb_n1 w
    · exact specKb_n2 w
    · exact specKb_n3 w
    · exact specKb_n4 w
    · exact specKb_n5 w
    · exact specKb_n6 w
    · exact specKb_n7 w
    · exact specKb_n8 w
    · exact specKb_n9 w
    · exact specKb_n10 w
    · exact specKb_n11 w
    · exact specKb_n12 w

end Go.Proofs.YtndlehogfedfaaaDoor
