/-
  KeyText of the program: ktx. By program (kytgen.py).
-/
import Derived.Test.YtndlehogfedfaaaDoorKt
namespace Go.Proofs.YtndlehogfedfaaaDoor
open Go.RowKit
set_option linter.unusedVariables false
set_option linter.unusedSimpArgs false
set_option maxRecDepth 100000

set_option maxHeartbeats 2000000 in
theorem implKt_0 (k r : Int) (hF : kForm k r = 0) (w : World) :
    Calls Tryd.prog 8 #[.agg #[.int .i64 k, .int .i64 r]] w fun e w' => e = .returned (.string ⟨#[]⟩) ∧ Below w.heap.size w w' := by
  have qf : Hid (∀ w', Calls Tryd.prog 21 #[.agg #[.int .i64 k, .int .i64 r]] w' fun e w'' => e = .returned (.int .i64 0) ∧ Below w'.heap.size w' w'') := fun w' => by have := implForm_any k r w'; rw [hF] at this; exact this
  have HT : Hid (∀ w', RdI w' (some ⟨w.heap.size + 1, 0, none⟩) [r] → Calls Tryd.prog 20 #[.slice (some ⟨w.heap.size + 1, 0, none⟩) 1 1] w' fun e w'' => e = .returned (.string (sgn r)) ∧ Below w'.heap.size w' w'') := fun w' h => implText_any _ 1 1 [r] w' rfl h (by omega)
  obtain ⟨T, hT⟩ : ∃ T, T = sgn r := ⟨_, rfl⟩
  have zT : T.size ≤ 4 := by rw [hT]; exact sgn_size _
  rw [← hT] at HT
  have HTT : Hid (T = sgn r) := hT
  clear hF hT
  go_enter Tryd.func8, Tryd.ntmps8
  go_wp2_with fail
  obtain ⟨W2, hW2⟩ : ∃ U, U = (w.alloc (.cells #[.int .i64 k, .int .i64 r] 25)).alloc (.cells #[.int .i64 r] 3) := ⟨_, rfl⟩
  have b2 : Below w.heap.size w W2 := by rw [hW2]; exact ((Below.refl _ _).alloc (Nat.le_refl _) _).alloc (by simp) _
  have i2 : W2.heap[w.heap.size]? = some (.cells #[.int .i64 k, .int .i64 r] 25 (0, 0)) := by rw [hW2, heap_alloc_old _ _ (by simp)]; exact heap_alloc_new w _
  have z2 : W2.heap.size = w.heap.size + 2 := by rw [hW2]; simp
  have hr2 : RdI W2 (some ⟨w.heap.size + 1, 0, none⟩) [r] := by rw [hW2]; exact rdi_lit (by simp)
  have HI : Hid (∀ w', Below W2.heap.size W2 w' → w'.heap[w.heap.size]? = some (.cells #[.int .i64 k, .int .i64 r] 25 (0, 0))) := fun w' h => (h.block _ (by omega)).trans i2
  rw [← hW2]
  clear hW2 i2
  refine (HT.out _ hr2).mono ?_
  rintro e w3 ⟨rfl, h3⟩
  have hz3 := h3.size
  have zl : w.heap.size < w3.heap.size := by omega
  have y0 : w3.cell? ⟨w.heap.size, 0, none⟩ = some (.int .i64 k) := box_cell (HI.out _ h3) rfl
  have y1 : w3.cell? ⟨w.heap.size, 1, none⟩ = some (.int .i64 r) := box_cell (HI.out _ h3) rfl
  go_wp2_with fail
  clear y0 y1 zl
  refine (qf.out _).mono ?_
  rintro e w4 ⟨rfl, h4⟩
  have h24 : Below W2.heap.size W2 w4 := h3.trans (h4.mono h3.size)
  have hz4 := h4.size
  have zl : w.heap.size < w4.heap.size := by omega
  have y0 : w4.cell? ⟨w.heap.size, 0, none⟩ = some (.int .i64 k) := box_cell (HI.out _ h24) rfl
  have y1 : w4.cell? ⟨w.heap.size, 1, none⟩ = some (.int .i64 r) := box_cell (HI.out _ h24) rfl
  have HB : Hid (Below w.heap.size w w4) := b2.trans (h24.mono b2.size)
  clear h3 h4 h24 b2 hz3 hz4 z2 hr2 HI
  go_wp2
  go_ret
  exact ⟨rfl, HB.out⟩

set_option maxHeartbeats 2000000 in
theorem implKt_s (k : Int) (hF : kForm k 32 = 1) (w : World) :
    Calls Tryd.prog 8 #[.agg #[.int .i64 k, .int .i64 32]] w fun e w' => e = .returned (.string ⟨#[83, 80, 67]⟩) ∧ Below w.heap.size w w' := by
  have qf : Hid (∀ w', Calls Tryd.prog 21 #[.agg #[.int .i64 k, .int .i64 32]] w' fun e w'' => e = .returned (.int .i64 1) ∧ Below w'.heap.size w' w'') := fun w' => by have := implForm_any k 32 w'; rw [hF] at this; exact this
  have HT : Hid (∀ w', RdI w' (some ⟨w.heap.size + 1, 0, none⟩) [32] → Calls Tryd.prog 20 #[.slice (some ⟨w.heap.size + 1, 0, none⟩) 1 1] w' fun e w'' => e = .returned (.string (sgn 32)) ∧ Below w'.heap.size w' w'') := fun w' h => implText_any _ 1 1 [32] w' rfl h (by omega)
  obtain ⟨T, hT⟩ : ∃ T, T = sgn 32 := ⟨_, rfl⟩
  have zT : T.size ≤ 4 := by rw [hT]; exact sgn_size _
  rw [← hT] at HT
  have HTT : Hid (T = sgn 32) := hT
  clear hF hT
  go_enter Tryd.func8, Tryd.ntmps8
  go_wp2_with fail
  obtain ⟨W2, hW2⟩ : ∃ U, U = (w.alloc (.cells #[.int .i64 k, .int .i64 32] 25)).alloc (.cells #[.int .i64 32] 3) := ⟨_, rfl⟩
  have b2 : Below w.heap.size w W2 := by rw [hW2]; exact ((Below.refl _ _).alloc (Nat.le_refl _) _).alloc (by simp) _
  have i2 : W2.heap[w.heap.size]? = some (.cells #[.int .i64 k, .int .i64 32] 25 (0, 0)) := by rw [hW2, heap_alloc_old _ _ (by simp)]; exact heap_alloc_new w _
  have z2 : W2.heap.size = w.heap.size + 2 := by rw [hW2]; simp
  have hr2 : RdI W2 (some ⟨w.heap.size + 1, 0, none⟩) [32] := by rw [hW2]; exact rdi_lit (by simp)
  have HI : Hid (∀ w', Below W2.heap.size W2 w' → w'.heap[w.heap.size]? = some (.cells #[.int .i64 k, .int .i64 32] 25 (0, 0))) := fun w' h => (h.block _ (by omega)).trans i2
  rw [← hW2]
  clear hW2 i2
  refine (HT.out _ hr2).mono ?_
  rintro e w3 ⟨rfl, h3⟩
  have hz3 := h3.size
  have zl : w.heap.size < w3.heap.size := by omega
  have y0 : w3.cell? ⟨w.heap.size, 0, none⟩ = some (.int .i64 k) := box_cell (HI.out _ h3) rfl
  have y1 : w3.cell? ⟨w.heap.size, 1, none⟩ = some (.int .i64 32) := box_cell (HI.out _ h3) rfl
  go_wp2_with fail
  clear y0 y1 zl
  refine (qf.out _).mono ?_
  rintro e w4 ⟨rfl, h4⟩
  have h24 : Below W2.heap.size W2 w4 := h3.trans (h4.mono h3.size)
  have hz4 := h4.size
  have zl : w.heap.size < w4.heap.size := by omega
  have y0 : w4.cell? ⟨w.heap.size, 0, none⟩ = some (.int .i64 k) := box_cell (HI.out _ h24) rfl
  have y1 : w4.cell? ⟨w.heap.size, 1, none⟩ = some (.int .i64 32) := box_cell (HI.out _ h24) rfl
  have HB : Hid (Below w.heap.size w w4) := b2.trans (h24.mono b2.size)
  clear h3 h4 h24 b2 hz3 hz4 z2 hr2 HI
  go_wp2
  go_ret
  exact ⟨rfl, HB.out⟩

set_option maxHeartbeats 2000000 in
theorem implKt_1 (k r : Int) (hF : kForm k r = 1) (h32 : r ≠ 32) (w : World) :
    Calls Tryd.prog 8 #[.agg #[.int .i64 k, .int .i64 r]] w fun e w' => e = .returned (.string (sgn r)) ∧ Below w.heap.size w w' := by
  have qf : Hid (∀ w', Calls Tryd.prog 21 #[.agg #[.int .i64 k, .int .i64 r]] w' fun e w'' => e = .returned (.int .i64 1) ∧ Below w'.heap.size w' w'') := fun w' => by have := implForm_any k r w'; rw [hF] at this; exact this
  have HT : Hid (∀ w', RdI w' (some ⟨w.heap.size + 1, 0, none⟩) [r] → Calls Tryd.prog 20 #[.slice (some ⟨w.heap.size + 1, 0, none⟩) 1 1] w' fun e w'' => e = .returned (.string (sgn r)) ∧ Below w'.heap.size w' w'') := fun w' h => implText_any _ 1 1 [r] w' rfl h (by omega)
  obtain ⟨T, hT⟩ : ∃ T, T = sgn r := ⟨_, rfl⟩
  have zT : T.size ≤ 4 := by rw [hT]; exact sgn_size _
  rw [← hT] at HT
  have HTT : Hid (T = sgn r) := hT
  clear hF hT
  go_enter Tryd.func8, Tryd.ntmps8
  go_wp2_with fail
  obtain ⟨W2, hW2⟩ : ∃ U, U = (w.alloc (.cells #[.int .i64 k, .int .i64 r] 25)).alloc (.cells #[.int .i64 r] 3) := ⟨_, rfl⟩
  have b2 : Below w.heap.size w W2 := by rw [hW2]; exact ((Below.refl _ _).alloc (Nat.le_refl _) _).alloc (by simp) _
  have i2 : W2.heap[w.heap.size]? = some (.cells #[.int .i64 k, .int .i64 r] 25 (0, 0)) := by rw [hW2, heap_alloc_old _ _ (by simp)]; exact heap_alloc_new w _
  have z2 : W2.heap.size = w.heap.size + 2 := by rw [hW2]; simp
  have hr2 : RdI W2 (some ⟨w.heap.size + 1, 0, none⟩) [r] := by rw [hW2]; exact rdi_lit (by simp)
  have HI : Hid (∀ w', Below W2.heap.size W2 w' → w'.heap[w.heap.size]? = some (.cells #[.int .i64 k, .int .i64 r] 25 (0, 0))) := fun w' h => (h.block _ (by omega)).trans i2
  rw [← hW2]
  clear hW2 i2
  refine (HT.out _ hr2).mono ?_
  rintro e w3 ⟨rfl, h3⟩
  have hz3 := h3.size
  have zl : w.heap.size < w3.heap.size := by omega
  have y0 : w3.cell? ⟨w.heap.size, 0, none⟩ = some (.int .i64 k) := box_cell (HI.out _ h3) rfl
  have y1 : w3.cell? ⟨w.heap.size, 1, none⟩ = some (.int .i64 r) := box_cell (HI.out _ h3) rfl
  go_wp2_with fail
  clear y0 y1 zl
  refine (qf.out _).mono ?_
  rintro e w4 ⟨rfl, h4⟩
  have h24 : Below W2.heap.size W2 w4 := h3.trans (h4.mono h3.size)
  have hz4 := h4.size
  have zl : w.heap.size < w4.heap.size := by omega
  have y0 : w4.cell? ⟨w.heap.size, 0, none⟩ = some (.int .i64 k) := box_cell (HI.out _ h24) rfl
  have y1 : w4.cell? ⟨w.heap.size, 1, none⟩ = some (.int .i64 r) := box_cell (HI.out _ h24) rfl
  have HB : Hid (Below w.heap.size w w4) := b2.trans (h24.mono b2.size)
  clear h3 h4 h24 b2 hz3 hz4 z2 hr2 HI
  go_wp2
  go_ret
  exact ⟨by rw [← HTT.out]; rfl, HB.out⟩

set_option maxHeartbeats 2000000 in
theorem implKt_2 (k r : Int) (hF : kForm k r = 2) (w : World) :
    Calls Tryd.prog 8 #[.agg #[.int .i64 k, .int .i64 r]] w fun e w' => e = .returned (.string (⟨#[67, 45]⟩ ++ sgn r)) ∧ Below w.heap.size w w' := by
  have qf : Hid (∀ w', Calls Tryd.prog 21 #[.agg #[.int .i64 k, .int .i64 r]] w' fun e w'' => e = .returned (.int .i64 2) ∧ Below w'.heap.size w' w'') := fun w' => by have := implForm_any k r w'; rw [hF] at this; exact this
  have HT : Hid (∀ w', RdI w' (some ⟨w.heap.size + 1, 0, none⟩) [r] → Calls Tryd.prog 20 #[.slice (some ⟨w.heap.size + 1, 0, none⟩) 1 1] w' fun e w'' => e = .returned (.string (sgn r)) ∧ Below w'.heap.size w' w'') := fun w' h => implText_any _ 1 1 [r] w' rfl h (by omega)
  obtain ⟨T, hT⟩ : ∃ T, T = sgn r := ⟨_, rfl⟩
  have zT : T.size ≤ 4 := by rw [hT]; exact sgn_size _
  rw [← hT] at HT
  have HTT : Hid (T = sgn r) := hT
  clear hF hT
  go_enter Tryd.func8, Tryd.ntmps8
  go_wp2_with fail
  obtain ⟨W2, hW2⟩ : ∃ U, U = (w.alloc (.cells #[.int .i64 k, .int .i64 r] 25)).alloc (.cells #[.int .i64 r] 3) := ⟨_, rfl⟩
  have b2 : Below w.heap.size w W2 := by rw [hW2]; exact ((Below.refl _ _).alloc (Nat.le_refl _) _).alloc (by simp) _
  have i2 : W2.heap[w.heap.size]? = some (.cells #[.int .i64 k, .int .i64 r] 25 (0, 0)) := by rw [hW2, heap_alloc_old _ _ (by simp)]; exact heap_alloc_new w _
  have z2 : W2.heap.size = w.heap.size + 2 := by rw [hW2]; simp
  have hr2 : RdI W2 (some ⟨w.heap.size + 1, 0, none⟩) [r] := by rw [hW2]; exact rdi_lit (by simp)
  have HI : Hid (∀ w', Below W2.heap.size W2 w' → w'.heap[w.heap.size]? = some (.cells #[.int .i64 k, .int .i64 r] 25 (0, 0))) := fun w' h => (h.block _ (by omega)).trans i2
  rw [← hW2]
  clear hW2 i2
  refine (HT.out _ hr2).mono ?_
  rintro e w3 ⟨rfl, h3⟩
  have hz3 := h3.size
  have zl : w.heap.size < w3.heap.size := by omega
  have y0 : w3.cell? ⟨w.heap.size, 0, none⟩ = some (.int .i64 k) := box_cell (HI.out _ h3) rfl
  have y1 : w3.cell? ⟨w.heap.size, 1, none⟩ = some (.int .i64 r) := box_cell (HI.out _ h3) rfl
  go_wp2_with fail
  clear y0 y1 zl
  refine (qf.out _).mono ?_
  rintro e w4 ⟨rfl, h4⟩
  have h24 : Below W2.heap.size W2 w4 := h3.trans (h4.mono h3.size)
  have hz4 := h4.size
  have zl : w.heap.size < w4.heap.size := by omega
  have y0 : w4.cell? ⟨w.heap.size, 0, none⟩ = some (.int .i64 k) := box_cell (HI.out _ h24) rfl
  have y1 : w4.cell? ⟨w.heap.size, 1, none⟩ = some (.int .i64 r) := box_cell (HI.out _ h24) rfl
  have HB : Hid (Below w.heap.size w w4) := b2.trans (h24.mono b2.size)
  clear h3 h4 h24 b2 hz3 hz4 z2 hr2 HI
  have hcat : (ByteArray.mk #[67, 45]).size + T.size ≤ 9223372036854775807 := by have : (ByteArray.mk #[67, 45]).size = 2 := rfl; omega
  go_wp2
  go_ret
  exact ⟨by rw [← HTT.out]; rfl, HB.out⟩

set_option maxHeartbeats 2000000 in
theorem implKt_3 (k r : Int) (hF : kForm k r = 3) (w : World) :
    Calls Tryd.prog 8 #[.agg #[.int .i64 k, .int .i64 r]] w fun e w' => e = .returned (.string (⟨#[77, 45]⟩ ++ sgn r)) ∧ Below w.heap.size w w' := by
  have qf : Hid (∀ w', Calls Tryd.prog 21 #[.agg #[.int .i64 k, .int .i64 r]] w' fun e w'' => e = .returned (.int .i64 3) ∧ Below w'.heap.size w' w'') := fun w' => by have := implForm_any k r w'; rw [hF] at this; exact this
  have HT : Hid (∀ w', RdI w' (some ⟨w.heap.size + 1, 0, none⟩) [r] → Calls Tryd.prog 20 #[.slice (some ⟨w.heap.size + 1, 0, none⟩) 1 1] w' fun e w'' => e = .returned (.string (sgn r)) ∧ Below w'.heap.size w' w'') := fun w' h => implText_any _ 1 1 [r] w' rfl h (by omega)
  obtain ⟨T, hT⟩ : ∃ T, T = sgn r := ⟨_, rfl⟩
  have zT : T.size ≤ 4 := by rw [hT]; exact sgn_size _
  rw [← hT] at HT
  have HTT : Hid (T = sgn r) := hT
  clear hF hT
  go_enter Tryd.func8, Tryd.ntmps8
  go_wp2_with fail
  obtain ⟨W2, hW2⟩ : ∃ U, U = (w.alloc (.cells #[.int .i64 k, .int .i64 r] 25)).alloc (.cells #[.int .i64 r] 3) := ⟨_, rfl⟩
  have b2 : Below w.heap.size w W2 := by rw [hW2]; exact ((Below.refl _ _).alloc (Nat.le_refl _) _).alloc (by simp) _
  have i2 : W2.heap[w.heap.size]? = some (.cells #[.int .i64 k, .int .i64 r] 25 (0, 0)) := by rw [hW2, heap_alloc_old _ _ (by simp)]; exact heap_alloc_new w _
  have z2 : W2.heap.size = w.heap.size + 2 := by rw [hW2]; simp
  have hr2 : RdI W2 (some ⟨w.heap.size + 1, 0, none⟩) [r] := by rw [hW2]; exact rdi_lit (by simp)
  have HI : Hid (∀ w', Below W2.heap.size W2 w' → w'.heap[w.heap.size]? = some (.cells #[.int .i64 k, .int .i64 r] 25 (0, 0))) := fun w' h => (h.block _ (by omega)).trans i2
  rw [← hW2]
  clear hW2 i2
  refine (HT.out _ hr2).mono ?_
  rintro e w3 ⟨rfl, h3⟩
  have hz3 := h3.size
  have zl : w.heap.size < w3.heap.size := by omega
  have y0 : w3.cell? ⟨w.heap.size, 0, none⟩ = some (.int .i64 k) := box_cell (HI.out _ h3) rfl
  have y1 : w3.cell? ⟨w.heap.size, 1, none⟩ = some (.int .i64 r) := box_cell (HI.out _ h3) rfl
  go_wp2_with fail
  clear y0 y1 zl
  refine (qf.out _).mono ?_
  rintro e w4 ⟨rfl, h4⟩
  have h24 : Below W2.heap.size W2 w4 := h3.trans (h4.mono h3.size)
  have hz4 := h4.size
  have zl : w.heap.size < w4.heap.size := by omega
  have y0 : w4.cell? ⟨w.heap.size, 0, none⟩ = some (.int .i64 k) := box_cell (HI.out _ h24) rfl
  have y1 : w4.cell? ⟨w.heap.size, 1, none⟩ = some (.int .i64 r) := box_cell (HI.out _ h24) rfl
  have HB : Hid (Below w.heap.size w w4) := b2.trans (h24.mono b2.size)
  clear h3 h4 h24 b2 hz3 hz4 z2 hr2 HI
  have hcat : (ByteArray.mk #[77, 45]).size + T.size ≤ 9223372036854775807 := by have : (ByteArray.mk #[77, 45]).size = 2 := rfl; omega
  go_wp2
  go_ret
  exact ⟨by rw [← HTT.out]; rfl, HB.out⟩

set_option maxHeartbeats 2000000 in
theorem implKt_n0  (w : World) (hN : Nams w) :
    Calls Tryd.prog 8 #[.agg #[.int .i64 4, .int .i64 0]] w fun e w' => e = .returned (.string (nmA 0)) ∧ Below w.heap.size w w' := by
  have hF : kForm 4 0 = 4 := rfl
  have HN := hN.1 0 (by omega)
  have qf : Hid (∀ w', Calls Tryd.prog 21 #[.agg #[.int .i64 4, .int .i64 0]] w' fun e w'' => e = .returned (.int .i64 4) ∧ Below w'.heap.size w' w'') := fun w' => by have := implForm_any 4 0 w'; rw [hF] at this; exact this
  have HT : Hid (∀ w', RdI w' (some ⟨w.heap.size + 1, 0, none⟩) [0] → Calls Tryd.prog 20 #[.slice (some ⟨w.heap.size + 1, 0, none⟩) 1 1] w' fun e w'' => e = .returned (.string (sgn 0)) ∧ Below w'.heap.size w' w'') := fun w' h => implText_any _ 1 1 [0] w' rfl h (by omega)
  obtain ⟨T, hT⟩ : ∃ T, T = sgn 0 := ⟨_, rfl⟩
  have zT : T.size ≤ 4 := by rw [hT]; exact sgn_size _
  rw [← hT] at HT
  have HTT : Hid (T = sgn 0) := hT
  clear hF hT
  go_enter Tryd.func8, Tryd.ntmps8
  go_wp2_with fail
  obtain ⟨W2, hW2⟩ : ∃ U, U = (w.alloc (.cells #[.int .i64 4, .int .i64 0] 25)).alloc (.cells #[.int .i64 0] 3) := ⟨_, rfl⟩
  have b2 : Below w.heap.size w W2 := by rw [hW2]; exact ((Below.refl _ _).alloc (Nat.le_refl _) _).alloc (by simp) _
  have i2 : W2.heap[w.heap.size]? = some (.cells #[.int .i64 4, .int .i64 0] 25 (0, 0)) := by rw [hW2, heap_alloc_old _ _ (by simp)]; exact heap_alloc_new w _
  have z2 : W2.heap.size = w.heap.size + 2 := by rw [hW2]; simp
  have hr2 : RdI W2 (some ⟨w.heap.size + 1, 0, none⟩) [0] := by rw [hW2]; exact rdi_lit (by simp)
  have HI : Hid (∀ w', Below W2.heap.size W2 w' → w'.heap[w.heap.size]? = some (.cells #[.int .i64 4, .int .i64 0] 25 (0, 0))) := fun w' h => (h.block _ (by omega)).trans i2
  rw [← hW2]
  clear hW2 i2
  refine (HT.out _ hr2).mono ?_
  rintro e w3 ⟨rfl, h3⟩
  have hz3 := h3.size
  have zl : w.heap.size < w3.heap.size := by omega
  have y0 : w3.cell? ⟨w.heap.size, 0, none⟩ = some (.int .i64 4) := box_cell (HI.out _ h3) rfl
  have y1 : w3.cell? ⟨w.heap.size, 1, none⟩ = some (.int .i64 0) := box_cell (HI.out _ h3) rfl
  go_wp2_with fail
  clear y0 y1 zl
  refine (qf.out _).mono ?_
  rintro e w4 ⟨rfl, h4⟩
  have h24 : Below W2.heap.size W2 w4 := h3.trans (h4.mono h3.size)
  have hz4 := h4.size
  have zl : w.heap.size < w4.heap.size := by omega
  have y0 : w4.cell? ⟨w.heap.size, 0, none⟩ = some (.int .i64 4) := box_cell (HI.out _ h24) rfl
  have y1 : w4.cell? ⟨w.heap.size, 1, none⟩ = some (.int .i64 0) := box_cell (HI.out _ h24) rfl
  have HB : Hid (Below w.heap.size w w4) := b2.trans (h24.mono b2.size)
  clear h3 h4 h24 b2 hz3 hz4 z2 hr2 HI
  have HN4 : w4.cell? ⟨0, 0, none⟩ = some (.string (nmA 0)) := (HB.out.cell (p := ⟨0, 0, none⟩) (World.block_lt_of_cell? w _ HN)).trans HN
  clear HN
  go_wp2
  go_ret
  exact ⟨rfl, HB.out⟩

set_option maxHeartbeats 2000000 in
theorem implKt_n1  (w : World) (hN : Nams w) :
    Calls Tryd.prog 8 #[.agg #[.int .i64 5, .int .i64 0]] w fun e w' => e = .returned (.string (nmA 1)) ∧ Below w.heap.size w w' := by
  have hF : kForm 5 0 = 4 := rfl
  have HN := hN.1 1 (by omega)
  have qf : Hid (∀ w', Calls Tryd.prog 21 #[.agg #[.int .i64 5, .int .i64 0]] w' fun e w'' => e = .returned (.int .i64 4) ∧ Below w'.heap.size w' w'') := fun w' => by have := implForm_any 5 0 w'; rw [hF] at this; exact this
  have HT : Hid (∀ w', RdI w' (some ⟨w.heap.size + 1, 0, none⟩) [0] → Calls Tryd.prog 20 #[.slice (some ⟨w.heap.size + 1, 0, none⟩) 1 1] w' fun e w'' => e = .returned (.string (sgn 0)) ∧ Below w'.heap.size w' w'') := fun w' h => implText_any _ 1 1 [0] w' rfl h (by omega)
  obtain ⟨T, hT⟩ : ∃ T, T = sgn 0 := ⟨_, rfl⟩
  have zT : T.size ≤ 4 := by rw [hT]; exact sgn_size _
  rw [← hT] at HT
  have HTT : Hid (T = sgn 0) := hT
  clear hF hT
  go_enter Tryd.func8, Tryd.ntmps8
  go_wp2_with fail
  obtain ⟨W2, hW2⟩ : ∃ U, U = (w.alloc (.cells #[.int .i64 5, .int .i64 0] 25)).alloc (.cells #[.int .i64 0] 3) := ⟨_, rfl⟩
  have b2 : Below w.heap.size w W2 := by rw [hW2]; exact ((Below.refl _ _).alloc (Nat.le_refl _) _).alloc (by simp) _
  have i2 : W2.heap[w.heap.size]? = some (.cells #[.int .i64 5, .int .i64 0] 25 (0, 0)) := by rw [hW2, heap_alloc_old _ _ (by simp)]; exact heap_alloc_new w _
  have z2 : W2.heap.size = w.heap.size + 2 := by rw [hW2]; simp
  have hr2 : RdI W2 (some ⟨w.heap.size + 1, 0, none⟩) [0] := by rw [hW2]; exact rdi_lit (by simp)
  have HI : Hid (∀ w', Below W2.heap.size W2 w' → w'.heap[w.heap.size]? = some (.cells #[.int .i64 5, .int .i64 0] 25 (0, 0))) := fun w' h => (h.block _ (by omega)).trans i2
  rw [← hW2]
  clear hW2 i2
  refine (HT.out _ hr2).mono ?_
  rintro e w3 ⟨rfl, h3⟩
  have hz3 := h3.size
  have zl : w.heap.size < w3.heap.size := by omega
  have y0 : w3.cell? ⟨w.heap.size, 0, none⟩ = some (.int .i64 5) := box_cell (HI.out _ h3) rfl
  have y1 : w3.cell? ⟨w.heap.size, 1, none⟩ = some (.int .i64 0) := box_cell (HI.out _ h3) rfl
  go_wp2_with fail
  clear y0 y1 zl
  refine (qf.out _).mono ?_
  rintro e w4 ⟨rfl, h4⟩
  have h24 : Below W2.heap.size W2 w4 := h3.trans (h4.mono h3.size)
  have hz4 := h4.size
  have zl : w.heap.size < w4.heap.size := by omega
  have y0 : w4.cell? ⟨w.heap.size, 0, none⟩ = some (.int .i64 5) := box_cell (HI.out _ h24) rfl
  have y1 : w4.cell? ⟨w.heap.size, 1, none⟩ = some (.int .i64 0) := box_cell (HI.out _ h24) rfl
  have HB : Hid (Below w.heap.size w w4) := b2.trans (h24.mono b2.size)
  clear h3 h4 h24 b2 hz3 hz4 z2 hr2 HI
  have HN4 : w4.cell? ⟨0, 2, none⟩ = some (.string (nmA 1)) := (HB.out.cell (p := ⟨0, 2, none⟩) (World.block_lt_of_cell? w _ HN)).trans HN
  clear HN
  go_wp2
  go_ret
  exact ⟨rfl, HB.out⟩

set_option maxHeartbeats 2000000 in
theorem implKt_n2  (w : World) (hN : Nams w) :
    Calls Tryd.prog 8 #[.agg #[.int .i64 6, .int .i64 0]] w fun e w' => e = .returned (.string (nmA 2)) ∧ Below w.heap.size w w' := by
  have hF : kForm 6 0 = 4 := rfl
  have HN := hN.1 2 (by omega)
  have qf : Hid (∀ w', Calls Tryd.prog 21 #[.agg #[.int .i64 6, .int .i64 0]] w' fun e w'' => e = .returned (.int .i64 4) ∧ Below w'.heap.size w' w'') := fun w' => by have := implForm_any 6 0 w'; rw [hF] at this; exact this
  have HT : Hid (∀ w', RdI w' (some ⟨w.heap.size + 1, 0, none⟩) [0] → Calls Tryd.prog 20 #[.slice (some ⟨w.heap.size + 1, 0, none⟩) 1 1] w' fun e w'' => e = .returned (.string (sgn 0)) ∧ Below w'.heap.size w' w'') := fun w' h => implText_any _ 1 1 [0] w' rfl h (by omega)
  obtain ⟨T, hT⟩ : ∃ T, T = sgn 0 := ⟨_, rfl⟩
  have zT : T.size ≤ 4 := by rw [hT]; exact sgn_size _
  rw [← hT] at HT
  have HTT : Hid (T = sgn 0) := hT
  clear hF hT
  go_enter Tryd.func8, Tryd.ntmps8
  go_wp2_with fail
  obtain ⟨W2, hW2⟩ : ∃ U, U = (w.alloc (.cells #[.int .i64 6, .int .i64 0] 25)).alloc (.cells #[.int .i64 0] 3) := ⟨_, rfl⟩
  have b2 : Below w.heap.size w W2 := by rw [hW2]; exact ((Below.refl _ _).alloc (Nat.le_refl _) _).alloc (by simp) _
  have i2 : W2.heap[w.heap.size]? = some (.cells #[.int .i64 6, .int .i64 0] 25 (0, 0)) := by rw [hW2, heap_alloc_old _ _ (by simp)]; exact heap_alloc_new w _
  have z2 : W2.heap.size = w.heap.size + 2 := by rw [hW2]; simp
  have hr2 : RdI W2 (some ⟨w.heap.size + 1, 0, none⟩) [0] := by rw [hW2]; exact rdi_lit (by simp)
  have HI : Hid (∀ w', Below W2.heap.size W2 w' → w'.heap[w.heap.size]? = some (.cells #[.int .i64 6, .int .i64 0] 25 (0, 0))) := fun w' h => (h.block _ (by omega)).trans i2
  rw [← hW2]
  clear hW2 i2
  refine (HT.out _ hr2).mono ?_
  rintro e w3 ⟨rfl, h3⟩
  have hz3 := h3.size
  have zl : w.heap.size < w3.heap.size := by omega
  have y0 : w3.cell? ⟨w.heap.size, 0, none⟩ = some (.int .i64 6) := box_cell (HI.out _ h3) rfl
  have y1 : w3.cell? ⟨w.heap.size, 1, none⟩ = some (.int .i64 0) := box_cell (HI.out _ h3) rfl
  go_wp2_with fail
  clear y0 y1 zl
  refine (qf.out _).mono ?_
  rintro e w4 ⟨rfl, h4⟩
  have h24 : Below W2.heap.size W2 w4 := h3.trans (h4.mono h3.size)
  have hz4 := h4.size
  have zl : w.heap.size < w4.heap.size := by omega
  have y0 : w4.cell? ⟨w.heap.size, 0, none⟩ = some (.int .i64 6) := box_cell (HI.out _ h24) rfl
  have y1 : w4.cell? ⟨w.heap.size, 1, none⟩ = some (.int .i64 0) := box_cell (HI.out _ h24) rfl
  have HB : Hid (Below w.heap.size w w4) := b2.trans (h24.mono b2.size)
  clear h3 h4 h24 b2 hz3 hz4 z2 hr2 HI
  have HN4 : w4.cell? ⟨0, 4, none⟩ = some (.string (nmA 2)) := (HB.out.cell (p := ⟨0, 4, none⟩) (World.block_lt_of_cell? w _ HN)).trans HN
  clear HN
  go_wp2
  go_ret
  exact ⟨rfl, HB.out⟩

set_option maxHeartbeats 2000000 in
theorem implKt_n3  (w : World) (hN : Nams w) :
    Calls Tryd.prog 8 #[.agg #[.int .i64 7, .int .i64 0]] w fun e w' => e = .returned (.string (nmA 3)) ∧ Below w.heap.size w w' := by
  have hF : kForm 7 0 = 4 := rfl
  have HN := hN.1 3 (by omega)
  have qf : Hid (∀ w', Calls Tryd.prog 21 #[.agg #[.int .i64 7, .int .i64 0]] w' fun e w'' => e = .returned (.int .i64 4) ∧ Below w'.heap.size w' w'') := fun w' => by have := implForm_any 7 0 w'; rw [hF] at this; exact this
  have HT : Hid (∀ w', RdI w' (some ⟨w.heap.size + 1, 0, none⟩) [0] → Calls Tryd.prog 20 #[.slice (some ⟨w.heap.size + 1, 0, none⟩) 1 1] w' fun e w'' => e = .returned (.string (sgn 0)) ∧ Below w'.heap.size w' w'') := fun w' h => implText_any _ 1 1 [0] w' rfl h (by omega)
  obtain ⟨T, hT⟩ : ∃ T, T = sgn 0 := ⟨_, rfl⟩
  have zT : T.size ≤ 4 := by rw [hT]; exact sgn_size _
  rw [← hT] at HT
  have HTT : Hid (T = sgn 0) := hT
  clear hF hT
  go_enter Tryd.func8, Tryd.ntmps8
  go_wp2_with fail
  obtain ⟨W2, hW2⟩ : ∃ U, U = (w.alloc (.cells #[.int .i64 7, .int .i64 0] 25)).alloc (.cells #[.int .i64 0] 3) := ⟨_, rfl⟩
  have b2 : Below w.heap.size w W2 := by rw [hW2]; exact ((Below.refl _ _).alloc (Nat.le_refl _) _).alloc (by simp) _
  have i2 : W2.heap[w.heap.size]? = some (.cells #[.int .i64 7, .int .i64 0] 25 (0, 0)) := by rw [hW2, heap_alloc_old _ _ (by simp)]; exact heap_alloc_new w _
  have z2 : W2.heap.size = w.heap.size + 2 := by rw [hW2]; simp
  have hr2 : RdI W2 (some ⟨w.heap.size + 1, 0, none⟩) [0] := by rw [hW2]; exact rdi_lit (by simp)
  have HI : Hid (∀ w', Below W2.heap.size W2 w' → w'.heap[w.heap.size]? = some (.cells #[.int .i64 7, .int .i64 0] 25 (0, 0))) := fun w' h => (h.block _ (by omega)).trans i2
  rw [← hW2]
  clear hW2 i2
  refine (HT.out _ hr2).mono ?_
  rintro e w3 ⟨rfl, h3⟩
  have hz3 := h3.size
  have zl : w.heap.size < w3.heap.size := by omega
  have y0 : w3.cell? ⟨w.heap.size, 0, none⟩ = some (.int .i64 7) := box_cell (HI.out _ h3) rfl
  have y1 : w3.cell? ⟨w.heap.size, 1, none⟩ = some (.int .i64 0) := box_cell (HI.out _ h3) rfl
  go_wp2_with fail
  clear y0 y1 zl
  refine (qf.out _).mono ?_
  rintro e w4 ⟨rfl, h4⟩
  have h24 : Below W2.heap.size W2 w4 := h3.trans (h4.mono h3.size)
  have hz4 := h4.size
  have zl : w.heap.size < w4.heap.size := by omega
  have y0 : w4.cell? ⟨w.heap.size, 0, none⟩ = some (.int .i64 7) := box_cell (HI.out _ h24) rfl
  have y1 : w4.cell? ⟨w.heap.size, 1, none⟩ = some (.int .i64 0) := box_cell (HI.out _ h24) rfl
  have HB : Hid (Below w.heap.size w w4) := b2.trans (h24.mono b2.size)
  clear h3 h4 h24 b2 hz3 hz4 z2 hr2 HI
  have HN4 : w4.cell? ⟨0, 6, none⟩ = some (.string (nmA 3)) := (HB.out.cell (p := ⟨0, 6, none⟩) (World.block_lt_of_cell? w _ HN)).trans HN
  clear HN
  go_wp2
  go_ret
  exact ⟨rfl, HB.out⟩

set_option maxHeartbeats 2000000 in
theorem implKt_n4  (w : World) (hN : Nams w) :
    Calls Tryd.prog 8 #[.agg #[.int .i64 8, .int .i64 0]] w fun e w' => e = .returned (.string (nmA 4)) ∧ Below w.heap.size w w' := by
  have hF : kForm 8 0 = 4 := rfl
  have HN := hN.1 4 (by omega)
  have qf : Hid (∀ w', Calls Tryd.prog 21 #[.agg #[.int .i64 8, .int .i64 0]] w' fun e w'' => e = .returned (.int .i64 4) ∧ Below w'.heap.size w' w'') := fun w' => by have := implForm_any 8 0 w'; rw [hF] at this; exact this
  have HT : Hid (∀ w', RdI w' (some ⟨w.heap.size + 1, 0, none⟩) [0] → Calls Tryd.prog 20 #[.slice (some ⟨w.heap.size + 1, 0, none⟩) 1 1] w' fun e w'' => e = .returned (.string (sgn 0)) ∧ Below w'.heap.size w' w'') := fun w' h => implText_any _ 1 1 [0] w' rfl h (by omega)
  obtain ⟨T, hT⟩ : ∃ T, T = sgn 0 := ⟨_, rfl⟩
  have zT : T.size ≤ 4 := by rw [hT]; exact sgn_size _
  rw [← hT] at HT
  have HTT : Hid (T = sgn 0) := hT
  clear hF hT
  go_enter Tryd.func8, Tryd.ntmps8
  go_wp2_with fail
  obtain ⟨W2, hW2⟩ : ∃ U, U = (w.alloc (.cells #[.int .i64 8, .int .i64 0] 25)).alloc (.cells #[.int .i64 0] 3) := ⟨_, rfl⟩
  have b2 : Below w.heap.size w W2 := by rw [hW2]; exact ((Below.refl _ _).alloc (Nat.le_refl _) _).alloc (by simp) _
  have i2 : W2.heap[w.heap.size]? = some (.cells #[.int .i64 8, .int .i64 0] 25 (0, 0)) := by rw [hW2, heap_alloc_old _ _ (by simp)]; exact heap_alloc_new w _
  have z2 : W2.heap.size = w.heap.size + 2 := by rw [hW2]; simp
  have hr2 : RdI W2 (some ⟨w.heap.size + 1, 0, none⟩) [0] := by rw [hW2]; exact rdi_lit (by simp)
  have HI : Hid (∀ w', Below W2.heap.size W2 w' → w'.heap[w.heap.size]? = some (.cells #[.int .i64 8, .int .i64 0] 25 (0, 0))) := fun w' h => (h.block _ (by omega)).trans i2
  rw [← hW2]
  clear hW2 i2
  refine (HT.out _ hr2).mono ?_
  rintro e w3 ⟨rfl, h3⟩
  have hz3 := h3.size
  have zl : w.heap.size < w3.heap.size := by omega
  have y0 : w3.cell? ⟨w.heap.size, 0, none⟩ = some (.int .i64 8) := box_cell (HI.out _ h3) rfl
  have y1 : w3.cell? ⟨w.heap.size, 1, none⟩ = some (.int .i64 0) := box_cell (HI.out _ h3) rfl
  go_wp2_with fail
  clear y0 y1 zl
  refine (qf.out _).mono ?_
  rintro e w4 ⟨rfl, h4⟩
  have h24 : Below W2.heap.size W2 w4 := h3.trans (h4.mono h3.size)
  have hz4 := h4.size
  have zl : w.heap.size < w4.heap.size := by omega
  have y0 : w4.cell? ⟨w.heap.size, 0, none⟩ = some (.int .i64 8) := box_cell (HI.out _ h24) rfl
  have y1 : w4.cell? ⟨w.heap.size, 1, none⟩ = some (.int .i64 0) := box_cell (HI.out _ h24) rfl
  have HB : Hid (Below w.heap.size w w4) := b2.trans (h24.mono b2.size)
  clear h3 h4 h24 b2 hz3 hz4 z2 hr2 HI
  have HN4 : w4.cell? ⟨0, 8, none⟩ = some (.string (nmA 4)) := (HB.out.cell (p := ⟨0, 8, none⟩) (World.block_lt_of_cell? w _ HN)).trans HN
  clear HN
  go_wp2
  go_ret
  exact ⟨rfl, HB.out⟩

set_option maxHeartbeats 2000000 in
theorem implKt_n5  (w : World) (hN : Nams w) :
    Calls Tryd.prog 8 #[.agg #[.int .i64 9, .int .i64 0]] w fun e w' => e = .returned (.string (nmA 5)) ∧ Below w.heap.size w w' := by
  have hF : kForm 9 0 = 4 := rfl
  have HN := hN.1 5 (by omega)
  have qf : Hid (∀ w', Calls Tryd.prog 21 #[.agg #[.int .i64 9, .int .i64 0]] w' fun e w'' => e = .returned (.int .i64 4) ∧ Below w'.heap.size w' w'') := fun w' => by have := implForm_any 9 0 w'; rw [hF] at this; exact this
  have HT : Hid (∀ w', RdI w' (some ⟨w.heap.size + 1, 0, none⟩) [0] → Calls Tryd.prog 20 #[.slice (some ⟨w.heap.size + 1, 0, none⟩) 1 1] w' fun e w'' => e = .returned (.string (sgn 0)) ∧ Below w'.heap.size w' w'') := fun w' h => implText_any _ 1 1 [0] w' rfl h (by omega)
  obtain ⟨T, hT⟩ : ∃ T, T = sgn 0 := ⟨_, rfl⟩
  have zT : T.size ≤ 4 := by rw [hT]; exact sgn_size _
  rw [← hT] at HT
  have HTT : Hid (T = sgn 0) := hT
  clear hF hT
  go_enter Tryd.func8, Tryd.ntmps8
  go_wp2_with fail
  obtain ⟨W2, hW2⟩ : ∃ U, U = (w.alloc (.cells #[.int .i64 9, .int .i64 0] 25)).alloc (.cells #[.int .i64 0] 3) := ⟨_, rfl⟩
  have b2 : Below w.heap.size w W2 := by rw [hW2]; exact ((Below.refl _ _).alloc (Nat.le_refl _) _).alloc (by simp) _
  have i2 : W2.heap[w.heap.size]? = some (.cells #[.int .i64 9, .int .i64 0] 25 (0, 0)) := by rw [hW2, heap_alloc_old _ _ (by simp)]; exact heap_alloc_new w _
  have z2 : W2.heap.size = w.heap.size + 2 := by rw [hW2]; simp
  have hr2 : RdI W2 (some ⟨w.heap.size + 1, 0, none⟩) [0] := by rw [hW2]; exact rdi_lit (by simp)
  have HI : Hid (∀ w', Below W2.heap.size W2 w' → w'.heap[w.heap.size]? = some (.cells #[.int .i64 9, .int .i64 0] 25 (0, 0))) := fun w' h => (h.block _ (by omega)).trans i2
  rw [← hW2]
  clear hW2 i2
  refine (HT.out _ hr2).mono ?_
  rintro e w3 ⟨rfl, h3⟩
  have hz3 := h3.size
  have zl : w.heap.size < w3.heap.size := by omega
  have y0 : w3.cell? ⟨w.heap.size, 0, none⟩ = some (.int .i64 9) := box_cell (HI.out _ h3) rfl
  have y1 : w3.cell? ⟨w.heap.size, 1, none⟩ = some (.int .i64 0) := box_cell (HI.out _ h3) rfl
  go_wp2_with fail
  clear y0 y1 zl
  refine (qf.out _).mono ?_
  rintro e w4 ⟨rfl, h4⟩
  have h24 : Below W2.heap.size W2 w4 := h3.trans (h4.mono h3.size)
  have hz4 := h4.size
  have zl : w.heap.size < w4.heap.size := by omega
  have y0 : w4.cell? ⟨w.heap.size, 0, none⟩ = some (.int .i64 9) := box_cell (HI.out _ h24) rfl
  have y1 : w4.cell? ⟨w.heap.size, 1, none⟩ = some (.int .i64 0) := box_cell (HI.out _ h24) rfl
  have HB : Hid (Below w.heap.size w w4) := b2.trans (h24.mono b2.size)
  clear h3 h4 h24 b2 hz3 hz4 z2 hr2 HI
  have HN4 : w4.cell? ⟨0, 10, none⟩ = some (.string (nmA 5)) := (HB.out.cell (p := ⟨0, 10, none⟩) (World.block_lt_of_cell? w _ HN)).trans HN
  clear HN
  go_wp2
  go_ret
  exact ⟨rfl, HB.out⟩

set_option maxHeartbeats 2000000 in
theorem implKt_n6  (w : World) (hN : Nams w) :
    Calls Tryd.prog 8 #[.agg #[.int .i64 10, .int .i64 0]] w fun e w' => e = .returned (.string (nmA 6)) ∧ Below w.heap.size w w' := by
  have hF : kForm 10 0 = 4 := rfl
  have HN := hN.1 6 (by omega)
  have qf : Hid (∀ w', Calls Tryd.prog 21 #[.agg #[.int .i64 10, .int .i64 0]] w' fun e w'' => e = .returned (.int .i64 4) ∧ Below w'.heap.size w' w'') := fun w' => by have := implForm_any 10 0 w'; rw [hF] at this; exact this
  have HT : Hid (∀ w', RdI w' (some ⟨w.heap.size + 1, 0, none⟩) [0] → Calls Tryd.prog 20 #[.slice (some ⟨w.heap.size + 1, 0, none⟩) 1 1] w' fun e w'' => e = .returned (.string (sgn 0)) ∧ Below w'.heap.size w' w'') := fun w' h => implText_any _ 1 1 [0] w' rfl h (by omega)
  obtain ⟨T, hT⟩ : ∃ T, T = sgn 0 := ⟨_, rfl⟩
  have zT : T.size ≤ 4 := by rw [hT]; exact sgn_size _
  rw [← hT] at HT
  have HTT : Hid (T = sgn 0) := hT
  clear hF hT
  go_enter Tryd.func8, Tryd.ntmps8
  go_wp2_with fail
  obtain ⟨W2, hW2⟩ : ∃ U, U = (w.alloc (.cells #[.int .i64 10, .int .i64 0] 25)).alloc (.cells #[.int .i64 0] 3) := ⟨_, rfl⟩
  have b2 : Below w.heap.size w W2 := by rw [hW2]; exact ((Below.refl _ _).alloc (Nat.le_refl _) _).alloc (by simp) _
  have i2 : W2.heap[w.heap.size]? = some (.cells #[.int .i64 10, .int .i64 0] 25 (0, 0)) := by rw [hW2, heap_alloc_old _ _ (by simp)]; exact heap_alloc_new w _
  have z2 : W2.heap.size = w.heap.size + 2 := by rw [hW2]; simp
  have hr2 : RdI W2 (some ⟨w.heap.size + 1, 0, none⟩) [0] := by rw [hW2]; exact rdi_lit (by simp)
  have HI : Hid (∀ w', Below W2.heap.size W2 w' → w'.heap[w.heap.size]? = some (.cells #[.int .i64 10, .int .i64 0] 25 (0, 0))) := fun w' h => (h.block _ (by omega)).trans i2
  rw [← hW2]
  clear hW2 i2
  refine (HT.out _ hr2).mono ?_
  rintro e w3 ⟨rfl, h3⟩
  have hz3 := h3.size
  have zl : w.heap.size < w3.heap.size := by omega
  have y0 : w3.cell? ⟨w.heap.size, 0, none⟩ = some (.int .i64 10) := box_cell (HI.out _ h3) rfl
  have y1 : w3.cell? ⟨w.heap.size, 1, none⟩ = some (.int .i64 0) := box_cell (HI.out _ h3) rfl
  go_wp2_with fail
  clear y0 y1 zl
  refine (qf.out _).mono ?_
  rintro e w4 ⟨rfl, h4⟩
  have h24 : Below W2.heap.size W2 w4 := h3.trans (h4.mono h3.size)
  have hz4 := h4.size
  have zl : w.heap.size < w4.heap.size := by omega
  have y0 : w4.cell? ⟨w.heap.size, 0, none⟩ = some (.int .i64 10) := box_cell (HI.out _ h24) rfl
  have y1 : w4.cell? ⟨w.heap.size, 1, none⟩ = some (.int .i64 0) := box_cell (HI.out _ h24) rfl
  have HB : Hid (Below w.heap.size w w4) := b2.trans (h24.mono b2.size)
  clear h3 h4 h24 b2 hz3 hz4 z2 hr2 HI
  have HN4 : w4.cell? ⟨0, 12, none⟩ = some (.string (nmA 6)) := (HB.out.cell (p := ⟨0, 12, none⟩) (World.block_lt_of_cell? w _ HN)).trans HN
  clear HN
  go_wp2
  go_ret
  exact ⟨rfl, HB.out⟩

set_option maxHeartbeats 2000000 in
theorem implKt_n7  (w : World) (hN : Nams w) :
    Calls Tryd.prog 8 #[.agg #[.int .i64 11, .int .i64 0]] w fun e w' => e = .returned (.string (nmA 7)) ∧ Below w.heap.size w w' := by
  have hF : kForm 11 0 = 4 := rfl
  have HN := hN.1 7 (by omega)
  have qf : Hid (∀ w', Calls Tryd.prog 21 #[.agg #[.int .i64 11, .int .i64 0]] w' fun e w'' => e = .returned (.int .i64 4) ∧ Below w'.heap.size w' w'') := fun w' => by have := implForm_any 11 0 w'; rw [hF] at this; exact this
  have HT : Hid (∀ w', RdI w' (some ⟨w.heap.size + 1, 0, none⟩) [0] → Calls Tryd.prog 20 #[.slice (some ⟨w.heap.size + 1, 0, none⟩) 1 1] w' fun e w'' => e = .returned (.string (sgn 0)) ∧ Below w'.heap.size w' w'') := fun w' h => implText_any _ 1 1 [0] w' rfl h (by omega)
  obtain ⟨T, hT⟩ : ∃ T, T = sgn 0 := ⟨_, rfl⟩
  have zT : T.size ≤ 4 := by rw [hT]; exact sgn_size _
  rw [← hT] at HT
  have HTT : Hid (T = sgn 0) := hT
  clear hF hT
  go_enter Tryd.func8, Tryd.ntmps8
  go_wp2_with fail
  obtain ⟨W2, hW2⟩ : ∃ U, U = (w.alloc (.cells #[.int .i64 11, .int .i64 0] 25)).alloc (.cells #[.int .i64 0] 3) := ⟨_, rfl⟩
  have b2 : Below w.heap.size w W2 := by rw [hW2]; exact ((Below.refl _ _).alloc (Nat.le_refl _) _).alloc (by simp) _
  have i2 : W2.heap[w.heap.size]? = some (.cells #[.int .i64 11, .int .i64 0] 25 (0, 0)) := by rw [hW2, heap_alloc_old _ _ (by simp)]; exact heap_alloc_new w _
  have z2 : W2.heap.size = w.heap.size + 2 := by rw [hW2]; simp
  have hr2 : RdI W2 (some ⟨w.heap.size + 1, 0, none⟩) [0] := by rw [hW2]; exact rdi_lit (by simp)
  have HI : Hid (∀ w', Below W2.heap.size W2 w' → w'.heap[w.heap.size]? = some (.cells #[.int .i64 11, .int .i64 0] 25 (0, 0))) := fun w' h => (h.block _ (by omega)).trans i2
  rw [← hW2]
  clear hW2 i2
  refine (HT.out _ hr2).mono ?_
  rintro e w3 ⟨rfl, h3⟩
  have hz3 := h3.size
  have zl : w.heap.size < w3.heap.size := by omega
  have y0 : w3.cell? ⟨w.heap.size, 0, none⟩ = some (.int .i64 11) := box_cell (HI.out _ h3) rfl
  have y1 : w3.cell? ⟨w.heap.size, 1, none⟩ = some (.int .i64 0) := box_cell (HI.out _ h3) rfl
  go_wp2_with fail
  clear y0 y1 zl
  refine (qf.out _).mono ?_
  rintro e w4 ⟨rfl, h4⟩
  have h24 : Below W2.heap.size W2 w4 := h3.trans (h4.mono h3.size)
  have hz4 := h4.size
  have zl : w.heap.size < w4.heap.size := by omega
  have y0 : w4.cell? ⟨w.heap.size, 0, none⟩ = some (.int .i64 11) := box_cell (HI.out _ h24) rfl
  have y1 : w4.cell? ⟨w.heap.size, 1, none⟩ = some (.int .i64 0) := box_cell (HI.out _ h24) rfl
  have HB : Hid (Below w.heap.size w w4) := b2.trans (h24.mono b2.size)
  clear h3 h4 h24 b2 hz3 hz4 z2 hr2 HI
  have HN4 : w4.cell? ⟨0, 14, none⟩ = some (.string (nmA 7)) := (HB.out.cell (p := ⟨0, 14, none⟩) (World.block_lt_of_cell? w _ HN)).trans HN
  clear HN
  go_wp2
  go_ret
  exact ⟨rfl, HB.out⟩

set_option maxHeartbeats 2000000 in
theorem implKt_n8  (w : World) (hN : Nams w) :
    Calls Tryd.prog 8 #[.agg #[.int .i64 12, .int .i64 0]] w fun e w' => e = .returned (.string (nmA 8)) ∧ Below w.heap.size w w' := by
  have hF : kForm 12 0 = 4 := rfl
  have HN := hN.1 8 (by omega)
  have qf : Hid (∀ w', Calls Tryd.prog 21 #[.agg #[.int .i64 12, .int .i64 0]] w' fun e w'' => e = .returned (.int .i64 4) ∧ Below w'.heap.size w' w'') := fun w' => by have := implForm_any 12 0 w'; rw [hF] at this; exact this
  have HT : Hid (∀ w', RdI w' (some ⟨w.heap.size + 1, 0, none⟩) [0] → Calls Tryd.prog 20 #[.slice (some ⟨w.heap.size + 1, 0, none⟩) 1 1] w' fun e w'' => e = .returned (.string (sgn 0)) ∧ Below w'.heap.size w' w'') := fun w' h => implText_any _ 1 1 [0] w' rfl h (by omega)
  obtain ⟨T, hT⟩ : ∃ T, T = sgn 0 := ⟨_, rfl⟩
  have zT : T.size ≤ 4 := by rw [hT]; exact sgn_size _
  rw [← hT] at HT
  have HTT : Hid (T = sgn 0) := hT
  clear hF hT
  go_enter Tryd.func8, Tryd.ntmps8
  go_wp2_with fail
  obtain ⟨W2, hW2⟩ : ∃ U, U = (w.alloc (.cells #[.int .i64 12, .int .i64 0] 25)).alloc (.cells #[.int .i64 0] 3) := ⟨_, rfl⟩
  have b2 : Below w.heap.size w W2 := by rw [hW2]; exact ((Below.refl _ _).alloc (Nat.le_refl _) _).alloc (by simp) _
  have i2 : W2.heap[w.heap.size]? = some (.cells #[.int .i64 12, .int .i64 0] 25 (0, 0)) := by rw [hW2, heap_alloc_old _ _ (by simp)]; exact heap_alloc_new w _
  have z2 : W2.heap.size = w.heap.size + 2 := by rw [hW2]; simp
  have hr2 : RdI W2 (some ⟨w.heap.size + 1, 0, none⟩) [0] := by rw [hW2]; exact rdi_lit (by simp)
  have HI : Hid (∀ w', Below W2.heap.size W2 w' → w'.heap[w.heap.size]? = some (.cells #[.int .i64 12, .int .i64 0] 25 (0, 0))) := fun w' h => (h.block _ (by omega)).trans i2
  rw [← hW2]
  clear hW2 i2
  refine (HT.out _ hr2).mono ?_
  rintro e w3 ⟨rfl, h3⟩
  have hz3 := h3.size
  have zl : w.heap.size < w3.heap.size := by omega
  have y0 : w3.cell? ⟨w.heap.size, 0, none⟩ = some (.int .i64 12) := box_cell (HI.out _ h3) rfl
  have y1 : w3.cell? ⟨w.heap.size, 1, none⟩ = some (.int .i64 0) := box_cell (HI.out _ h3) rfl
  go_wp2_with fail
  clear y0 y1 zl
  refine (qf.out _).mono ?_
  rintro e w4 ⟨rfl, h4⟩
  have h24 : Below W2.heap.size W2 w4 := h3.trans (h4.mono h3.size)
  have hz4 := h4.size
  have zl : w.heap.size < w4.heap.size := by omega
  have y0 : w4.cell? ⟨w.heap.size, 0, none⟩ = some (.int .i64 12) := box_cell (HI.out _ h24) rfl
  have y1 : w4.cell? ⟨w.heap.size, 1, none⟩ = some (.int .i64 0) := box_cell (HI.out _ h24) rfl
  have HB : Hid (Below w.heap.size w w4) := b2.trans (h24.mono b2.size)
  clear h3 h4 h24 b2 hz3 hz4 z2 hr2 HI
  have HN4 : w4.cell? ⟨0, 16, none⟩ = some (.string (nmA 8)) := (HB.out.cell (p := ⟨0, 16, none⟩) (World.block_lt_of_cell? w _ HN)).trans HN
  clear HN
  go_wp2
  go_ret
  exact ⟨rfl, HB.out⟩

set_option maxHeartbeats 2000000 in
theorem implKt_n9  (w : World) (hN : Nams w) :
    Calls Tryd.prog 8 #[.agg #[.int .i64 13, .int .i64 0]] w fun e w' => e = .returned (.string (nmA 9)) ∧ Below w.heap.size w w' := by
  have hF : kForm 13 0 = 4 := rfl
  have HN := hN.1 9 (by omega)
  have qf : Hid (∀ w', Calls Tryd.prog 21 #[.agg #[.int .i64 13, .int .i64 0]] w' fun e w'' => e = .returned (.int .i64 4) ∧ Below w'.heap.size w' w'') := fun w' => by have := implForm_any 13 0 w'; rw [hF] at this; exact this
  have HT : Hid (∀ w', RdI w' (some ⟨w.heap.size + 1, 0, none⟩) [0] → Calls Tryd.prog 20 #[.slice (some ⟨w.heap.size + 1, 0, none⟩) 1 1] w' fun e w'' => e = .returned (.string (sgn 0)) ∧ Below w'.heap.size w' w'') := fun w' h => implText_any _ 1 1 [0] w' rfl h (by omega)
  obtain ⟨T, hT⟩ : ∃ T, T = sgn 0 := ⟨_, rfl⟩
  have zT : T.size ≤ 4 := by rw [hT]; exact sgn_size _
  rw [← hT] at HT
  have HTT : Hid (T = sgn 0) := hT
  clear hF hT
  go_enter Tryd.func8, Tryd.ntmps8
  go_wp2_with fail
  obtain ⟨W2, hW2⟩ : ∃ U, U = (w.alloc (.cells #[.int .i64 13, .int .i64 0] 25)).alloc (.cells #[.int .i64 0] 3) := ⟨_, rfl⟩
  have b2 : Below w.heap.size w W2 := by rw [hW2]; exact ((Below.refl _ _).alloc (Nat.le_refl _) _).alloc (by simp) _
  have i2 : W2.heap[w.heap.size]? = some (.cells #[.int .i64 13, .int .i64 0] 25 (0, 0)) := by rw [hW2, heap_alloc_old _ _ (by simp)]; exact heap_alloc_new w _
  have z2 : W2.heap.size = w.heap.size + 2 := by rw [hW2]; simp
  have hr2 : RdI W2 (some ⟨w.heap.size + 1, 0, none⟩) [0] := by rw [hW2]; exact rdi_lit (by simp)
  have HI : Hid (∀ w', Below W2.heap.size W2 w' → w'.heap[w.heap.size]? = some (.cells #[.int .i64 13, .int .i64 0] 25 (0, 0))) := fun w' h => (h.block _ (by omega)).trans i2
  rw [← hW2]
  clear hW2 i2
  refine (HT.out _ hr2).mono ?_
  rintro e w3 ⟨rfl, h3⟩
  have hz3 := h3.size
  have zl : w.heap.size < w3.heap.size := by omega
  have y0 : w3.cell? ⟨w.heap.size, 0, none⟩ = some (.int .i64 13) := box_cell (HI.out _ h3) rfl
  have y1 : w3.cell? ⟨w.heap.size, 1, none⟩ = some (.int .i64 0) := box_cell (HI.out _ h3) rfl
  go_wp2_with fail
  clear y0 y1 zl
  refine (qf.out _).mono ?_
  rintro e w4 ⟨rfl, h4⟩
  have h24 : Below W2.heap.size W2 w4 := h3.trans (h4.mono h3.size)
  have hz4 := h4.size
  have zl : w.heap.size < w4.heap.size := by omega
  have y0 : w4.cell? ⟨w.heap.size, 0, none⟩ = some (.int .i64 13) := box_cell (HI.out _ h24) rfl
  have y1 : w4.cell? ⟨w.heap.size, 1, none⟩ = some (.int .i64 0) := box_cell (HI.out _ h24) rfl
  have HB : Hid (Below w.heap.size w w4) := b2.trans (h24.mono b2.size)
  clear h3 h4 h24 b2 hz3 hz4 z2 hr2 HI
  have HN4 : w4.cell? ⟨0, 18, none⟩ = some (.string (nmA 9)) := (HB.out.cell (p := ⟨0, 18, none⟩) (World.block_lt_of_cell? w _ HN)).trans HN
  clear HN
  go_wp2
  go_ret
  exact ⟨rfl, HB.out⟩

set_option maxHeartbeats 2000000 in
theorem implKt_n10  (w : World) (hN : Nams w) :
    Calls Tryd.prog 8 #[.agg #[.int .i64 14, .int .i64 0]] w fun e w' => e = .returned (.string (nmA 10)) ∧ Below w.heap.size w w' := by
  have hF : kForm 14 0 = 4 := rfl
  have HN := hN.1 10 (by omega)
  have qf : Hid (∀ w', Calls Tryd.prog 21 #[.agg #[.int .i64 14, .int .i64 0]] w' fun e w'' => e = .returned (.int .i64 4) ∧ Below w'.heap.size w' w'') := fun w' => by have := implForm_any 14 0 w'; rw [hF] at this; exact this
  have HT : Hid (∀ w', RdI w' (some ⟨w.heap.size + 1, 0, none⟩) [0] → Calls Tryd.prog 20 #[.slice (some ⟨w.heap.size + 1, 0, none⟩) 1 1] w' fun e w'' => e = .returned (.string (sgn 0)) ∧ Below w'.heap.size w' w'') := fun w' h => implText_any _ 1 1 [0] w' rfl h (by omega)
  obtain ⟨T, hT⟩ : ∃ T, T = sgn 0 := ⟨_, rfl⟩
  have zT : T.size ≤ 4 := by rw [hT]; exact sgn_size _
  rw [← hT] at HT
  have HTT : Hid (T = sgn 0) := hT
  clear hF hT
  go_enter Tryd.func8, Tryd.ntmps8
  go_wp2_with fail
  obtain ⟨W2, hW2⟩ : ∃ U, U = (w.alloc (.cells #[.int .i64 14, .int .i64 0] 25)).alloc (.cells #[.int .i64 0] 3) := ⟨_, rfl⟩
  have b2 : Below w.heap.size w W2 := by rw [hW2]; exact ((Below.refl _ _).alloc (Nat.le_refl _) _).alloc (by simp) _
  have i2 : W2.heap[w.heap.size]? = some (.cells #[.int .i64 14, .int .i64 0] 25 (0, 0)) := by rw [hW2, heap_alloc_old _ _ (by simp)]; exact heap_alloc_new w _
  have z2 : W2.heap.size = w.heap.size + 2 := by rw [hW2]; simp
  have hr2 : RdI W2 (some ⟨w.heap.size + 1, 0, none⟩) [0] := by rw [hW2]; exact rdi_lit (by simp)
  have HI : Hid (∀ w', Below W2.heap.size W2 w' → w'.heap[w.heap.size]? = some (.cells #[.int .i64 14, .int .i64 0] 25 (0, 0))) := fun w' h => (h.block _ (by omega)).trans i2
  rw [← hW2]
  clear hW2 i2
  refine (HT.out _ hr2).mono ?_
  rintro e w3 ⟨rfl, h3⟩
  have hz3 := h3.size
  have zl : w.heap.size < w3.heap.size := by omega
  have y0 : w3.cell? ⟨w.heap.size, 0, none⟩ = some (.int .i64 14) := box_cell (HI.out _ h3) rfl
  have y1 : w3.cell? ⟨w.heap.size, 1, none⟩ = some (.int .i64 0) := box_cell (HI.out _ h3) rfl
  go_wp2_with fail
  clear y0 y1 zl
  refine (qf.out _).mono ?_
  rintro e w4 ⟨rfl, h4⟩
  have h24 : Below W2.heap.size W2 w4 := h3.trans (h4.mono h3.size)
  have hz4 := h4.size
  have zl : w.heap.size < w4.heap.size := by omega
  have y0 : w4.cell? ⟨w.heap.size, 0, none⟩ = some (.int .i64 14) := box_cell (HI.out _ h24) rfl
  have y1 : w4.cell? ⟨w.heap.size, 1, none⟩ = some (.int .i64 0) := box_cell (HI.out _ h24) rfl
  have HB : Hid (Below w.heap.size w w4) := b2.trans (h24.mono b2.size)
  clear h3 h4 h24 b2 hz3 hz4 z2 hr2 HI
  have HN4 : w4.cell? ⟨0, 20, none⟩ = some (.string (nmA 10)) := (HB.out.cell (p := ⟨0, 20, none⟩) (World.block_lt_of_cell? w _ HN)).trans HN
  clear HN
  go_wp2
  go_ret
  exact ⟨rfl, HB.out⟩

set_option maxHeartbeats 2000000 in
theorem implKt_n11  (w : World) (hN : Nams w) :
    Calls Tryd.prog 8 #[.agg #[.int .i64 15, .int .i64 0]] w fun e w' => e = .returned (.string (nmA 11)) ∧ Below w.heap.size w w' := by
  have hF : kForm 15 0 = 4 := rfl
  have HN := hN.1 11 (by omega)
  have qf : Hid (∀ w', Calls Tryd.prog 21 #[.agg #[.int .i64 15, .int .i64 0]] w' fun e w'' => e = .returned (.int .i64 4) ∧ Below w'.heap.size w' w'') := fun w' => by have := implForm_any 15 0 w'; rw [hF] at this; exact this
  have HT : Hid (∀ w', RdI w' (some ⟨w.heap.size + 1, 0, none⟩) [0] → Calls Tryd.prog 20 #[.slice (some ⟨w.heap.size + 1, 0, none⟩) 1 1] w' fun e w'' => e = .returned (.string (sgn 0)) ∧ Below w'.heap.size w' w'') := fun w' h => implText_any _ 1 1 [0] w' rfl h (by omega)
  obtain ⟨T, hT⟩ : ∃ T, T = sgn 0 := ⟨_, rfl⟩
  have zT : T.size ≤ 4 := by rw [hT]; exact sgn_size _
  rw [← hT] at HT
  have HTT : Hid (T = sgn 0) := hT
  clear hF hT
  go_enter Tryd.func8, Tryd.ntmps8
  go_wp2_with fail
  obtain ⟨W2, hW2⟩ : ∃ U, U = (w.alloc (.cells #[.int .i64 15, .int .i64 0] 25)).alloc (.cells #[.int .i64 0] 3) := ⟨_, rfl⟩
  have b2 : Below w.heap.size w W2 := by rw [hW2]; exact ((Below.refl _ _).alloc (Nat.le_refl _) _).alloc (by simp) _
  have i2 : W2.heap[w.heap.size]? = some (.cells #[.int .i64 15, .int .i64 0] 25 (0, 0)) := by rw [hW2, heap_alloc_old _ _ (by simp)]; exact heap_alloc_new w _
  have z2 : W2.heap.size = w.heap.size + 2 := by rw [hW2]; simp
  have hr2 : RdI W2 (some ⟨w.heap.size + 1, 0, none⟩) [0] := by rw [hW2]; exact rdi_lit (by simp)
  have HI : Hid (∀ w', Below W2.heap.size W2 w' → w'.heap[w.heap.size]? = some (.cells #[.int .i64 15, .int .i64 0] 25 (0, 0))) := fun w' h => (h.block _ (by omega)).trans i2
  rw [← hW2]
  clear hW2 i2
  refine (HT.out _ hr2).mono ?_
  rintro e w3 ⟨rfl, h3⟩
  have hz3 := h3.size
  have zl : w.heap.size < w3.heap.size := by omega
  have y0 : w3.cell? ⟨w.heap.size, 0, none⟩ = some (.int .i64 15) := box_cell (HI.out _ h3) rfl
  have y1 : w3.cell? ⟨w.heap.size, 1, none⟩ = some (.int .i64 0) := box_cell (HI.out _ h3) rfl
  go_wp2_with fail
  clear y0 y1 zl
  refine (qf.out _).mono ?_
  rintro e w4 ⟨rfl, h4⟩
  have h24 : Below W2.heap.size W2 w4 := h3.trans (h4.mono h3.size)
  have hz4 := h4.size
  have zl : w.heap.size < w4.heap.size := by omega
  have y0 : w4.cell? ⟨w.heap.size, 0, none⟩ = some (.int .i64 15) := box_cell (HI.out _ h24) rfl
  have y1 : w4.cell? ⟨w.heap.size, 1, none⟩ = some (.int .i64 0) := box_cell (HI.out _ h24) rfl
  have HB : Hid (Below w.heap.size w w4) := b2.trans (h24.mono b2.size)
  clear h3 h4 h24 b2 hz3 hz4 z2 hr2 HI
  have HN4 : w4.cell? ⟨0, 22, none⟩ = some (.string (nmA 11)) := (HB.out.cell (p := ⟨0, 22, none⟩) (World.block_lt_of_cell? w _ HN)).trans HN
  clear HN
  go_wp2
  go_ret
  exact ⟨rfl, HB.out⟩

set_option maxHeartbeats 2000000 in
theorem implKt_n12  (w : World) (hN : Nams w) :
    Calls Tryd.prog 8 #[.agg #[.int .i64 16, .int .i64 0]] w fun e w' => e = .returned (.string (nmA 12)) ∧ Below w.heap.size w w' := by
  have hF : kForm 16 0 = 4 := rfl
  have HN := hN.1 12 (by omega)
  have qf : Hid (∀ w', Calls Tryd.prog 21 #[.agg #[.int .i64 16, .int .i64 0]] w' fun e w'' => e = .returned (.int .i64 4) ∧ Below w'.heap.size w' w'') := fun w' => by have := implForm_any 16 0 w'; rw [hF] at this; exact this
  have HT : Hid (∀ w', RdI w' (some ⟨w.heap.size + 1, 0, none⟩) [0] → Calls Tryd.prog 20 #[.slice (some ⟨w.heap.size + 1, 0, none⟩) 1 1] w' fun e w'' => e = .returned (.string (sgn 0)) ∧ Below w'.heap.size w' w'') := fun w' h => implText_any _ 1 1 [0] w' rfl h (by omega)
  obtain ⟨T, hT⟩ : ∃ T, T = sgn 0 := ⟨_, rfl⟩
  have zT : T.size ≤ 4 := by rw [hT]; exact sgn_size _
  rw [← hT] at HT
  have HTT : Hid (T = sgn 0) := hT
  clear hF hT
  go_enter Tryd.func8, Tryd.ntmps8
  go_wp2_with fail
  obtain ⟨W2, hW2⟩ : ∃ U, U = (w.alloc (.cells #[.int .i64 16, .int .i64 0] 25)).alloc (.cells #[.int .i64 0] 3) := ⟨_, rfl⟩
  have b2 : Below w.heap.size w W2 := by rw [hW2]; exact ((Below.refl _ _).alloc (Nat.le_refl _) _).alloc (by simp) _
  have i2 : W2.heap[w.heap.size]? = some (.cells #[.int .i64 16, .int .i64 0] 25 (0, 0)) := by rw [hW2, heap_alloc_old _ _ (by simp)]; exact heap_alloc_new w _
  have z2 : W2.heap.size = w.heap.size + 2 := by rw [hW2]; simp
  have hr2 : RdI W2 (some ⟨w.heap.size + 1, 0, none⟩) [0] := by rw [hW2]; exact rdi_lit (by simp)
  have HI : Hid (∀ w', Below W2.heap.size W2 w' → w'.heap[w.heap.size]? = some (.cells #[.int .i64 16, .int .i64 0] 25 (0, 0))) := fun w' h => (h.block _ (by omega)).trans i2
  rw [← hW2]
  clear hW2 i2
  refine (HT.out _ hr2).mono ?_
  rintro e w3 ⟨rfl, h3⟩
  have hz3 := h3.size
  have zl : w.heap.size < w3.heap.size := by omega
  have y0 : w3.cell? ⟨w.heap.size, 0, none⟩ = some (.int .i64 16) := box_cell (HI.out _ h3) rfl
  have y1 : w3.cell? ⟨w.heap.size, 1, none⟩ = some (.int .i64 0) := box_cell (HI.out _ h3) rfl
  go_wp2_with fail
  clear y0 y1 zl
  refine (qf.out _).mono ?_
  rintro e w4 ⟨rfl, h4⟩
  have h24 : Below W2.heap.size W2 w4 := h3.trans (h4.mono h3.size)
  have hz4 := h4.size
  have zl : w.heap.size < w4.heap.size := by omega
  have y0 : w4.cell? ⟨w.heap.size, 0, none⟩ = some (.int .i64 16) := box_cell (HI.out _ h24) rfl
  have y1 : w4.cell? ⟨w.heap.size, 1, none⟩ = some (.int .i64 0) := box_cell (HI.out _ h24) rfl
  have HB : Hid (Below w.heap.size w w4) := b2.trans (h24.mono b2.size)
  clear h3 h4 h24 b2 hz3 hz4 z2 hr2 HI
  have HN4 : w4.cell? ⟨0, 24, none⟩ = some (.string (nmA 12)) := (HB.out.cell (p := ⟨0, 24, none⟩) (World.block_lt_of_cell? w _ HN)).trans HN
  clear HN
  go_wp2
  go_ret
  exact ⟨rfl, HB.out⟩

theorem implKt_any (k r : Int) (w : World) (hN : Nams w) :
    Calls Tryd.prog 8 #[.agg #[.int .i64 k, .int .i64 r]] w fun e w' => e = .returned (.string (ktx k r)) ∧ Below w.heap.size w w' := by
  rcases kt_cases k r with ⟨h, e⟩ | ⟨h, rfl, e⟩ | ⟨h, h32, e⟩ | ⟨h, e⟩ | ⟨h, e⟩ | h
  · rw [e]; exact implKt_0 k r h w
  · rw [e]; exact implKt_s k h w
  · rw [e]; exact implKt_1 k r h h32 w
  · rw [e]; exact implKt_2 k r h w
  · rw [e]; exact implKt_3 k r h w
  rcases h with ⟨rfl, h⟩
  rcases h with ⟨rfl, e⟩ | ⟨rfl, e⟩ | ⟨rfl, e⟩ | ⟨rfl, e⟩ | ⟨rfl, e⟩ | ⟨rfl, e⟩ | ⟨rfl, e⟩ | ⟨rfl, e⟩ | ⟨rfl, e⟩ | ⟨rfl, e⟩ | ⟨rfl, e⟩ | ⟨rfl, e⟩ | ⟨rfl, e⟩
  · rw [e]; exact implKt_n0 w hN
  · rw [e]; exact implKt_n1 w hN
  · rw [e]; exact implKt_n2 w hN
  · rw [e]; exact implKt_n3 w hN
  · rw [e]; exact implKt_n4 w hN
  · rw [e]; exact implKt_n5 w hN
  · rw [e]; exact implKt_n6 w hN
  · rw [e]; exact implKt_n7 w hN
  · rw [e]; exact implKt_n8 w hN
  · rw [e]; exact implKt_n9 w hN
  · rw [e]; exact implKt_n10 w hN
  · rw [e]; exact implKt_n11 w hN
  · rw [e]; exact implKt_n12 w hN

end Go.Proofs.YtndlehogfedfaaaDoor
