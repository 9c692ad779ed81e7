/-
  KeyText of the model: ktx. By program (kytgen.py).
-/
import Derived.Test.YtndlehogfedfaaaDoorKt
namespace Go.Proofs.YtndlehogfedfaaaDoor
open Go.RowKit
set_option linter.unusedVariables false
set_option linter.unusedSimpArgs false
set_option maxRecDepth 100000

set_option maxHeartbeats 2000000 in
theorem specKt_0 (k r : Int) (hF : kok k r = false) (w : World) :
    Calls Tryd.prog 6 #[.agg #[.int .i64 k, .int .i64 r]] w fun e w' => e = .returned (.string ⟨#[]⟩) ∧ Below w.heap.size w w' := by
  have qf : Hid (∀ w', Calls Tryd.prog 17 #[.agg #[.int .i64 k, .int .i64 r]] w' fun e w'' => e = .returned (.bool false) ∧ Below w'.heap.size w' w'') := fun w' => by have := specKok_any k r w'; rw [hF] at this; exact this
  clear hF
  go_enter Tryd.func6, Tryd.ntmps6
  go_wp2_with fail
  obtain ⟨W1, hW1⟩ : ∃ U, U = w.alloc (.cells #[.int .i64 k, .int .i64 r] 25) := ⟨_, rfl⟩
  have b1 : Below w.heap.size w W1 := by rw [hW1]; exact (Below.refl _ _).alloc (Nat.le_refl _) _
  have i1 : W1.heap[w.heap.size]? = some (.cells #[.int .i64 k, .int .i64 r] 25 (0, 0)) := by rw [hW1]; exact heap_alloc_new w _
  have z1 : W1.heap.size = w.heap.size + 1 := by rw [hW1]; simp
  have HI : Hid (∀ w', Below W1.heap.size W1 w' → w'.heap[w.heap.size]? = some (.cells #[.int .i64 k, .int .i64 r] 25 (0, 0))) := fun w' h => (h.block _ (by omega)).trans i1
  rw [← hW1]
  clear hW1 i1
  refine (qf.out _).mono ?_
  rintro e w2 ⟨rfl, h2⟩
  have hz2 := h2.size
  have zl : w.heap.size < w2.heap.size := by omega
  have y0 : w2.cell? ⟨w.heap.size, 0, none⟩ = some (.int .i64 k) := box_cell (HI.out _ h2) rfl
  have y1 : w2.cell? ⟨w.heap.size, 1, none⟩ = some (.int .i64 r) := box_cell (HI.out _ h2) rfl
  have HB : Hid (Below w.heap.size w w2) := b1.trans (h2.mono b1.size)
  have HB2 : Hid (Below W1.heap.size W1 w2) := h2
  clear h2 b1 hz2 z1
  go_wp2
  go_ret
  exact ⟨rfl, HB.out⟩

set_option maxHeartbeats 2000000 in
theorem specKt_s (hF : kok 1 32 = true) (w : World) :
    Calls Tryd.prog 6 #[.agg #[.int .i64 1, .int .i64 32]] w fun e w' => e = .returned (.string ⟨#[83, 80, 67]⟩) ∧ Below w.heap.size w w' := by
  have qf : Hid (∀ w', Calls Tryd.prog 17 #[.agg #[.int .i64 1, .int .i64 32]] w' fun e w'' => e = .returned (.bool true) ∧ Below w'.heap.size w' w'') := fun w' => by have := specKok_any 1 32 w'; rw [hF] at this; exact this
  clear hF
  go_enter Tryd.func6, Tryd.ntmps6
  go_wp2_with fail
  obtain ⟨W1, hW1⟩ : ∃ U, U = w.alloc (.cells #[.int .i64 1, .int .i64 32] 25) := ⟨_, rfl⟩
  have b1 : Below w.heap.size w W1 := by rw [hW1]; exact (Below.refl _ _).alloc (Nat.le_refl _) _
  have i1 : W1.heap[w.heap.size]? = some (.cells #[.int .i64 1, .int .i64 32] 25 (0, 0)) := by rw [hW1]; exact heap_alloc_new w _
  have z1 : W1.heap.size = w.heap.size + 1 := by rw [hW1]; simp
  have HI : Hid (∀ w', Below W1.heap.size W1 w' → w'.heap[w.heap.size]? = some (.cells #[.int .i64 1, .int .i64 32] 25 (0, 0))) := fun w' h => (h.block _ (by omega)).trans i1
  rw [← hW1]
  clear hW1 i1
  refine (qf.out _).mono ?_
  rintro e w2 ⟨rfl, h2⟩
  have hz2 := h2.size
  have zl : w.heap.size < w2.heap.size := by omega
  have y0 : w2.cell? ⟨w.heap.size, 0, none⟩ = some (.int .i64 1) := box_cell (HI.out _ h2) rfl
  have y1 : w2.cell? ⟨w.heap.size, 1, none⟩ = some (.int .i64 32) := box_cell (HI.out _ h2) rfl
  have HB : Hid (Below w.heap.size w w2) := b1.trans (h2.mono b1.size)
  have HB2 : Hid (Below W1.heap.size W1 w2) := h2
  clear h2 b1 hz2 z1
  go_wp2
  go_ret
  exact ⟨rfl, HB.out⟩

set_option maxHeartbeats 2000000 in
theorem specKt_1 (r : Int) (hF : kok 1 r = true) (h32 : r ≠ 32) (w : World) :
    Calls Tryd.prog 6 #[.agg #[.int .i64 1, .int .i64 r]] w fun e w' => e = .returned (.string (sgn r)) ∧ Below w.heap.size w w' := by
  have qf : Hid (∀ w', Calls Tryd.prog 17 #[.agg #[.int .i64 1, .int .i64 r]] w' fun e w'' => e = .returned (.bool true) ∧ Below w'.heap.size w' w'') := fun w' => by have := specKok_any 1 r w'; rw [hF] at this; exact this
  clear hF
  go_enter Tryd.func6, Tryd.ntmps6
  go_wp2_with fail
  obtain ⟨W1, hW1⟩ : ∃ U, U = w.alloc (.cells #[.int .i64 1, .int .i64 r] 25) := ⟨_, rfl⟩
  have b1 : Below w.heap.size w W1 := by rw [hW1]; exact (Below.refl _ _).alloc (Nat.le_refl _) _
  have i1 : W1.heap[w.heap.size]? = some (.cells #[.int .i64 1, .int .i64 r] 25 (0, 0)) := by rw [hW1]; exact heap_alloc_new w _
  have z1 : W1.heap.size = w.heap.size + 1 := by rw [hW1]; simp
  have HI : Hid (∀ w', Below W1.heap.size W1 w' → w'.heap[w.heap.size]? = some (.cells #[.int .i64 1, .int .i64 r] 25 (0, 0))) := fun w' h => (h.block _ (by omega)).trans i1
  rw [← hW1]
  clear hW1 i1
  refine (qf.out _).mono ?_
  rintro e w2 ⟨rfl, h2⟩
  have hz2 := h2.size
  have zl : w.heap.size < w2.heap.size := by omega
  have y0 : w2.cell? ⟨w.heap.size, 0, none⟩ = some (.int .i64 1) := box_cell (HI.out _ h2) rfl
  have y1 : w2.cell? ⟨w.heap.size, 1, none⟩ = some (.int .i64 r) := box_cell (HI.out _ h2) rfl
  have HB : Hid (Below w.heap.size w w2) := b1.trans (h2.mono b1.size)
  have HB2 : Hid (Below W1.heap.size W1 w2) := h2
  clear h2 b1 hz2 z1
  obtain ⟨T, hT⟩ : ∃ T, T = sgn r := ⟨_, rfl⟩
  have zT : T.size ≤ 4 := by rw [hT]; exact sgn_size _
  have hc1 : (ByteArray.mk #[67, 45]).size + T.size ≤ 9223372036854775807 := by have : (ByteArray.mk #[67, 45]).size = 2 := rfl; omega
  have hc2 : (ByteArray.mk #[77, 45]).size + T.size ≤ 9223372036854775807 := by have : (ByteArray.mk #[77, 45]).size = 2 := rfl; omega
  go_wp2_with fail
  have hr3 : RdI (w2.alloc (.cells #[.int .i64 r] 3)) (some ⟨w2.heap.size, 0, none⟩) [r] := rdi_lit rfl
  refine (specText_any _ 1 1 [r] _ rfl hr3 (by omega)).mono ?_
  rintro e w3 ⟨rfl, h3⟩
  have HB3 : Hid (Below w.heap.size w w3) := (HB.out.alloc HB.out.size _).trans (h3.mono (HB.out.alloc HB.out.size _).size)
  have hTT : strOfNums (txt [r] 1) = T := by rw [hT]; rfl
  rw [hTT]
  have HTT : Hid (T = sgn r) := hT
  clear h3 hr3 hTT hT
  go_wp2
  go_ret
  exact ⟨by rw [← HTT.out]; rfl, HB3.out⟩

set_option maxHeartbeats 2000000 in
theorem specKt_2 (r : Int) (hF : kok 2 r = true) (w : World) :
    Calls Tryd.prog 6 #[.agg #[.int .i64 2, .int .i64 r]] w fun e w' => e = .returned (.string (⟨#[67, 45]⟩ ++ sgn r)) ∧ Below w.heap.size w w' := by
  have qf : Hid (∀ w', Calls Tryd.prog 17 #[.agg #[.int .i64 2, .int .i64 r]] w' fun e w'' => e = .returned (.bool true) ∧ Below w'.heap.size w' w'') := fun w' => by have := specKok_any 2 r w'; rw [hF] at this; exact this
  clear hF
  go_enter Tryd.func6, Tryd.ntmps6
  go_wp2_with fail
  obtain ⟨W1, hW1⟩ : ∃ U, U = w.alloc (.cells #[.int .i64 2, .int .i64 r] 25) := ⟨_, rfl⟩
  have b1 : Below w.heap.size w W1 := by rw [hW1]; exact (Below.refl _ _).alloc (Nat.le_refl _) _
  have i1 : W1.heap[w.heap.size]? = some (.cells #[.int .i64 2, .int .i64 r] 25 (0, 0)) := by rw [hW1]; exact heap_alloc_new w _
  have z1 : W1.heap.size = w.heap.size + 1 := by rw [hW1]; simp
  have HI : Hid (∀ w', Below W1.heap.size W1 w' → w'.heap[w.heap.size]? = some (.cells #[.int .i64 2, .int .i64 r] 25 (0, 0))) := fun w' h => (h.block _ (by omega)).trans i1
  rw [← hW1]
  clear hW1 i1
  refine (qf.out _).mono ?_
  rintro e w2 ⟨rfl, h2⟩
  have hz2 := h2.size
  have zl : w.heap.size < w2.heap.size := by omega
  have y0 : w2.cell? ⟨w.heap.size, 0, none⟩ = some (.int .i64 2) := box_cell (HI.out _ h2) rfl
  have y1 : w2.cell? ⟨w.heap.size, 1, none⟩ = some (.int .i64 r) := box_cell (HI.out _ h2) rfl
  have HB : Hid (Below w.heap.size w w2) := b1.trans (h2.mono b1.size)
  have HB2 : Hid (Below W1.heap.size W1 w2) := h2
  clear h2 b1 hz2 z1
  obtain ⟨T, hT⟩ : ∃ T, T = sgn r := ⟨_, rfl⟩
  have zT : T.size ≤ 4 := by rw [hT]; exact sgn_size _
  have hc1 : (ByteArray.mk #[67, 45]).size + T.size ≤ 9223372036854775807 := by have : (ByteArray.mk #[67, 45]).size = 2 := rfl; omega
  have hc2 : (ByteArray.mk #[77, 45]).size + T.size ≤ 9223372036854775807 := by have : (ByteArray.mk #[77, 45]).size = 2 := rfl; omega
  go_wp2_with fail
  have hr3 : RdI (w2.alloc (.cells #[.int .i64 r] 3)) (some ⟨w2.heap.size, 0, none⟩) [r] := rdi_lit rfl
  refine (specText_any _ 1 1 [r] _ rfl hr3 (by omega)).mono ?_
  rintro e w3 ⟨rfl, h3⟩
  have HB3 : Hid (Below w.heap.size w w3) := (HB.out.alloc HB.out.size _).trans (h3.mono (HB.out.alloc HB.out.size _).size)
  have hTT : strOfNums (txt [r] 1) = T := by rw [hT]; rfl
  rw [hTT]
  have HTT : Hid (T = sgn r) := hT
  clear h3 hr3 hTT hT
  go_wp2
  go_ret
  exact ⟨by rw [← HTT.out]; rfl, HB3.out⟩

set_option maxHeartbeats 2000000 in
theorem specKt_3 (r : Int) (hF : kok 3 r = true) (w : World) :
    Calls Tryd.prog 6 #[.agg #[.int .i64 3, .int .i64 r]] w fun e w' => e = .returned (.string (⟨#[77, 45]⟩ ++ sgn r)) ∧ Below w.heap.size w w' := by
  have qf : Hid (∀ w', Calls Tryd.prog 17 #[.agg #[.int .i64 3, .int .i64 r]] w' fun e w'' => e = .returned (.bool true) ∧ Below w'.heap.size w' w'') := fun w' => by have := specKok_any 3 r w'; rw [hF] at this; exact this
  clear hF
  go_enter Tryd.func6, Tryd.ntmps6
  go_wp2_with fail
  obtain ⟨W1, hW1⟩ : ∃ U, U = w.alloc (.cells #[.int .i64 3, .int .i64 r] 25) := ⟨_, rfl⟩
  have b1 : Below w.heap.size w W1 := by rw [hW1]; exact (Below.refl _ _).alloc (Nat.le_refl _) _
  have i1 : W1.heap[w.heap.size]? = some (.cells #[.int .i64 3, .int .i64 r] 25 (0, 0)) := by rw [hW1]; exact heap_alloc_new w _
  have z1 : W1.heap.size = w.heap.size + 1 := by rw [hW1]; simp
  have HI : Hid (∀ w', Below W1.heap.size W1 w' → w'.heap[w.heap.size]? = some (.cells #[.int .i64 3, .int .i64 r] 25 (0, 0))) := fun w' h => (h.block _ (by omega)).trans i1
  rw [← hW1]
  clear hW1 i1
  refine (qf.out _).mono ?_
  rintro e w2 ⟨rfl, h2⟩
  have hz2 := h2.size
  have zl : w.heap.size < w2.heap.size := by omega
  have y0 : w2.cell? ⟨w.heap.size, 0, none⟩ = some (.int .i64 3) := box_cell (HI.out _ h2) rfl
  have y1 : w2.cell? ⟨w.heap.size, 1, none⟩ = some (.int .i64 r) := box_cell (HI.out _ h2) rfl
  have HB : Hid (Below w.heap.size w w2) := b1.trans (h2.mono b1.size)
  have HB2 : Hid (Below W1.heap.size W1 w2) := h2
  clear h2 b1 hz2 z1
  obtain ⟨T, hT⟩ : ∃ T, T = sgn r := ⟨_, rfl⟩
  have zT : T.size ≤ 4 := by rw [hT]; exact sgn_size _
  have hc1 : (ByteArray.mk #[67, 45]).size + T.size ≤ 9223372036854775807 := by have : (ByteArray.mk #[67, 45]).size = 2 := rfl; omega
  have hc2 : (ByteArray.mk #[77, 45]).size + T.size ≤ 9223372036854775807 := by have : (ByteArray.mk #[77, 45]).size = 2 := rfl; omega
  go_wp2_with fail
  have hr3 : RdI (w2.alloc (.cells #[.int .i64 r] 3)) (some ⟨w2.heap.size, 0, none⟩) [r] := rdi_lit rfl
  refine (specText_any _ 1 1 [r] _ rfl hr3 (by omega)).mono ?_
  rintro e w3 ⟨rfl, h3⟩
  have HB3 : Hid (Below w.heap.size w w3) := (HB.out.alloc HB.out.size _).trans (h3.mono (HB.out.alloc HB.out.size _).size)
  have hTT : strOfNums (txt [r] 1) = T := by rw [hT]; rfl
  rw [hTT]
  have HTT : Hid (T = sgn r) := hT
  clear h3 hr3 hTT hT
  go_wp2
  go_ret
  exact ⟨by rw [← HTT.out]; rfl, HB3.out⟩

set_option maxHeartbeats 2000000 in
theorem specKt_n0  (w : World) :
    Calls Tryd.prog 6 #[.agg #[.int .i64 4, .int .i64 0]] w fun e w' => e = .returned (.string (nmA 0)) ∧ Below w.heap.size w w' := by
  have hF : kok 4 0 = true := rfl
  have qf : Hid (∀ w', Calls Tryd.prog 17 #[.agg #[.int .i64 4, .int .i64 0]] w' fun e w'' => e = .returned (.bool true) ∧ Below w'.heap.size w' w'') := fun w' => by have := specKok_any 4 0 w'; rw [hF] at this; exact this
  clear hF
  go_enter Tryd.func6, Tryd.ntmps6
  go_wp2_with fail
  obtain ⟨W1, hW1⟩ : ∃ U, U = w.alloc (.cells #[.int .i64 4, .int .i64 0] 25) := ⟨_, rfl⟩
  have b1 : Below w.heap.size w W1 := by rw [hW1]; exact (Below.refl _ _).alloc (Nat.le_refl _) _
  have i1 : W1.heap[w.heap.size]? = some (.cells #[.int .i64 4, .int .i64 0] 25 (0, 0)) := by rw [hW1]; exact heap_alloc_new w _
  have z1 : W1.heap.size = w.heap.size + 1 := by rw [hW1]; simp
  have HI : Hid (∀ w', Below W1.heap.size W1 w' → w'.heap[w.heap.size]? = some (.cells #[.int .i64 4, .int .i64 0] 25 (0, 0))) := fun w' h => (h.block _ (by omega)).trans i1
  rw [← hW1]
  clear hW1 i1
  refine (qf.out _).mono ?_
  rintro e w2 ⟨rfl, h2⟩
  have hz2 := h2.size
  have zl : w.heap.size < w2.heap.size := by omega
  have y0 : w2.cell? ⟨w.heap.size, 0, none⟩ = some (.int .i64 4) := box_cell (HI.out _ h2) rfl
  have y1 : w2.cell? ⟨w.heap.size, 1, none⟩ = some (.int .i64 0) := box_cell (HI.out _ h2) rfl
  have HB : Hid (Below w.heap.size w w2) := b1.trans (h2.mono b1.size)
  have HB2 : Hid (Below W1.heap.size W1 w2) := h2
  clear h2 b1 hz2 z1
  go_wp2_with fail
  go_region_with ((go_at_call 19; refine (names_any _).mono ?_; rintro e w3 ⟨g, rfl, hc3, hb3⟩; have n0 : w3.cell? ⟨g, 0, none⟩ = some (.string (nmA 0)) := hc3 0 (by omega); have y3 : w3.cell? ⟨w.heap.size, 0, none⟩ = some (.int .i64 4) := (hb3.cell (p := ⟨w.heap.size, 0, none⟩) (by first | exact zl | (simp; omega))).trans (by first | exact y0 | simpa using y0); have HB3 : Hid (Below w.heap.size w w3) := (by first | exact HB.out.trans (hb3.mono HB.out.size) | exact HB.out.drew.trans (hb3.mono HB.out.drew.size))))
  all_goals go_wp2
  all_goals go_ret
  all_goals exact ⟨rfl, (by first | exact HB3.out | exact HB3.out.drew)⟩

set_option maxHeartbeats 2000000 in
theorem specKt_n1  (w : World) :
    Calls Tryd.prog 6 #[.agg #[.int .i64 5, .int .i64 0]] w fun e w' => e = .returned (.string (nmA 1)) ∧ Below w.heap.size w w' := by
  have hF : kok 5 0 = true := rfl
  have qf : Hid (∀ w', Calls Tryd.prog 17 #[.agg #[.int .i64 5, .int .i64 0]] w' fun e w'' => e = .returned (.bool true) ∧ Below w'.heap.size w' w'') := fun w' => by have := specKok_any 5 0 w'; rw [hF] at this; exact this
  clear hF
  go_enter Tryd.func6, Tryd.ntmps6
  go_wp2_with fail
  obtain ⟨W1, hW1⟩ : ∃ U, U = w.alloc (.cells #[.int .i64 5, .int .i64 0] 25) := ⟨_, rfl⟩
  have b1 : Below w.heap.size w W1 := by rw [hW1]; exact (Below.refl _ _).alloc (Nat.le_refl _) _
  have i1 : W1.heap[w.heap.size]? = some (.cells #[.int .i64 5, .int .i64 0] 25 (0, 0)) := by rw [hW1]; exact heap_alloc_new w _
  have z1 : W1.heap.size = w.heap.size + 1 := by rw [hW1]; simp
  have HI : Hid (∀ w', Below W1.heap.size W1 w' → w'.heap[w.heap.size]? = some (.cells #[.int .i64 5, .int .i64 0] 25 (0, 0))) := fun w' h => (h.block _ (by omega)).trans i1
  rw [← hW1]
  clear hW1 i1
  refine (qf.out _).mono ?_
  rintro e w2 ⟨rfl, h2⟩
  have hz2 := h2.size
  have zl : w.heap.size < w2.heap.size := by omega
  have y0 : w2.cell? ⟨w.heap.size, 0, none⟩ = some (.int .i64 5) := box_cell (HI.out _ h2) rfl
  have y1 : w2.cell? ⟨w.heap.size, 1, none⟩ = some (.int .i64 0) := box_cell (HI.out _ h2) rfl
  have HB : Hid (Below w.heap.size w w2) := b1.trans (h2.mono b1.size)
  have HB2 : Hid (Below W1.heap.size W1 w2) := h2
  clear h2 b1 hz2 z1
  go_wp2_with fail
  go_region_with ((go_at_call 19; refine (names_any _).mono ?_; rintro e w3 ⟨g, rfl, hc3, hb3⟩; have n1 : w3.cell? ⟨g, 1, none⟩ = some (.string (nmA 1)) := hc3 1 (by omega); have y3 : w3.cell? ⟨w.heap.size, 0, none⟩ = some (.int .i64 5) := (hb3.cell (p := ⟨w.heap.size, 0, none⟩) (by first | exact zl | (simp; omega))).trans (by first | exact y0 | simpa using y0); have HB3 : Hid (Below w.heap.size w w3) := (by first | exact HB.out.trans (hb3.mono HB.out.size) | exact HB.out.drew.trans (hb3.mono HB.out.drew.size))))
  all_goals go_wp2
  all_goals go_ret
  all_goals exact ⟨rfl, (by first | exact HB3.out | exact HB3.out.drew)⟩

set_option maxHeartbeats 2000000 in
theorem specKt_n2  (w : World) :
    Calls Tryd.prog 6 #[.agg #[.int .i64 6, .int .i64 0]] w fun e w' => e = .returned (.string (nmA 2)) ∧ Below w.heap.size w w' := by
  have hF : kok 6 0 = true := rfl
  have qf : Hid (∀ w', Calls Tryd.prog 17 #[.agg #[.int .i64 6, .int .i64 0]] w' fun e w'' => e = .returned (.bool true) ∧ Below w'.heap.size w' w'') := fun w' => by have := specKok_any 6 0 w'; rw [hF] at this; exact this
  clear hF
  go_enter Tryd.func6, Tryd.ntmps6
  go_wp2_with fail
  obtain ⟨W1, hW1⟩ : ∃ U, U = w.alloc (.cells #[.int .i64 6, .int .i64 0] 25) := ⟨_, rfl⟩
  have b1 : Below w.heap.size w W1 := by rw [hW1]; exact (Below.refl _ _).alloc (Nat.le_refl _) _
  have i1 : W1.heap[w.heap.size]? = some (.cells #[.int .i64 6, .int .i64 0] 25 (0, 0)) := by rw [hW1]; exact heap_alloc_new w _
  have z1 : W1.heap.size = w.heap.size + 1 := by rw [hW1]; simp
  have HI : Hid (∀ w', Below W1.heap.size W1 w' → w'.heap[w.heap.size]? = some (.cells #[.int .i64 6, .int .i64 0] 25 (0, 0))) := fun w' h => (h.block _ (by omega)).trans i1
  rw [← hW1]
  clear hW1 i1
  refine (qf.out _).mono ?_
  rintro e w2 ⟨rfl, h2⟩
  have hz2 := h2.size
  have zl : w.heap.size < w2.heap.size := by omega
  have y0 : w2.cell? ⟨w.heap.size, 0, none⟩ = some (.int .i64 6) := box_cell (HI.out _ h2) rfl
  have y1 : w2.cell? ⟨w.heap.size, 1, none⟩ = some (.int .i64 0) := box_cell (HI.out _ h2) rfl
  have HB : Hid (Below w.heap.size w w2) := b1.trans (h2.mono b1.size)
  have HB2 : Hid (Below W1.heap.size W1 w2) := h2
  clear h2 b1 hz2 z1
  go_wp2_with fail
  go_region_with ((go_at_call 19; refine (names_any _).mono ?_; rintro e w3 ⟨g, rfl, hc3, hb3⟩; have n2 : w3.cell? ⟨g, 2, none⟩ = some (.string (nmA 2)) := hc3 2 (by omega); have y3 : w3.cell? ⟨w.heap.size, 0, none⟩ = some (.int .i64 6) := (hb3.cell (p := ⟨w.heap.size, 0, none⟩) (by first | exact zl | (simp; omega))).trans (by first | exact y0 | simpa using y0); have HB3 : Hid (Below w.heap.size w w3) := (by first | exact HB.out.trans (hb3.mono HB.out.size) | exact HB.out.drew.trans (hb3.mono HB.out.drew.size))))
  all_goals go_wp2
  all_goals go_ret
  all_goals exact ⟨rfl, (by first | exact HB3.out | exact HB3.out.drew)⟩

set_option maxHeartbeats 2000000 in
theorem specKt_n3  (w : World) :
    Calls Tryd.prog 6 #[.agg #[.int .i64 7, .int .i64 0]] w fun e w' => e = .returned (.string (nmA 3)) ∧ Below w.heap.size w w' := by
  have hF : kok 7 0 = true := rfl
  have qf : Hid (∀ w', Calls Tryd.prog 17 #[.agg #[.int .i64 7, .int .i64 0]] w' fun e w'' => e = .returned (.bool true) ∧ Below w'.heap.size w' w'') := fun w' => by have := specKok_any 7 0 w'; rw [hF] at this; exact this
  clear hF
  go_enter Tryd.func6, Tryd.ntmps6
  go_wp2_with fail
  obtain ⟨W1, hW1⟩ : ∃ U, U = w.alloc (.cells #[.int .i64 7, .int .i64 0] 25) := ⟨_, rfl⟩
  have b1 : Below w.heap.size w W1 := by rw [hW1]; exact (Below.refl _ _).alloc (Nat.le_refl _) _
  have i1 : W1.heap[w.heap.size]? = some (.cells #[.int .i64 7, .int .i64 0] 25 (0, 0)) := by rw [hW1]; exact heap_alloc_new w _
  have z1 : W1.heap.size = w.heap.size + 1 := by rw [hW1]; simp
  have HI : Hid (∀ w', Below W1.heap.size W1 w' → w'.heap[w.heap.size]? = some (.cells #[.int .i64 7, .int .i64 0] 25 (0, 0))) := fun w' h => (h.block _ (by omega)).trans i1
  rw [← hW1]
  clear hW1 i1
  refine (qf.out _).mono ?_
  rintro e w2 ⟨rfl, h2⟩
  have hz2 := h2.size
  have zl : w.heap.size < w2.heap.size := by omega
  have y0 : w2.cell? ⟨w.heap.size, 0, none⟩ = some (.int .i64 7) := box_cell (HI.out _ h2) rfl
  have y1 : w2.cell? ⟨w.heap.size, 1, none⟩ = some (.int .i64 0) := box_cell (HI.out _ h2) rfl
  have HB : Hid (Below w.heap.size w w2) := b1.trans (h2.mono b1.size)
  have HB2 : Hid (Below W1.heap.size W1 w2) := h2
  clear h2 b1 hz2 z1
  go_wp2_with fail
  go_region_with ((go_at_call 19; refine (names_any _).mono ?_; rintro e w3 ⟨g, rfl, hc3, hb3⟩; have n3 : w3.cell? ⟨g, 3, none⟩ = some (.string (nmA 3)) := hc3 3 (by omega); have y3 : w3.cell? ⟨w.heap.size, 0, none⟩ = some (.int .i64 7) := (hb3.cell (p := ⟨w.heap.size, 0, none⟩) (by first | exact zl | (simp; omega))).trans (by first | exact y0 | simpa using y0); have HB3 : Hid (Below w.heap.size w w3) := (by first | exact HB.out.trans (hb3.mono HB.out.size) | exact HB.out.drew.trans (hb3.mono HB.out.drew.size))))
  all_goals go_wp2
  all_goals go_ret
  all_goals exact ⟨rfl, (by first | exact HB3.out | exact HB3.out.drew)⟩

set_option maxHeartbeats 2000000 in
theorem specKt_n4  (w : World) :
    Calls Tryd.prog 6 #[.agg #[.int .i64 8, .int .i64 0]] w fun e w' => e = .returned (.string (nmA 4)) ∧ Below w.heap.size w w' := by
  have hF : kok 8 0 = true := rfl
  have qf : Hid (∀ w', Calls Tryd.prog 17 #[.agg #[.int .i64 8, .int .i64 0]] w' fun e w'' => e = .returned (.bool true) ∧ Below w'.heap.size w' w'') := fun w' => by have := specKok_any 8 0 w'; rw [hF] at this; exact this
  clear hF
  go_enter Tryd.func6, Tryd.ntmps6
  go_wp2_with fail
  obtain ⟨W1, hW1⟩ : ∃ U, U = w.alloc (.cells #[.int .i64 8, .int .i64 0] 25) := ⟨_, rfl⟩
  have b1 : Below w.heap.size w W1 := by rw [hW1]; exact (Below.refl _ _).alloc (Nat.le_refl _) _
  have i1 : W1.heap[w.heap.size]? = some (.cells #[.int .i64 8, .int .i64 0] 25 (0, 0)) := by rw [hW1]; exact heap_alloc_new w _
  have z1 : W1.heap.size = w.heap.size + 1 := by rw [hW1]; simp
  have HI : Hid (∀ w', Below W1.heap.size W1 w' → w'.heap[w.heap.size]? = some (.cells #[.int .i64 8, .int .i64 0] 25 (0, 0))) := fun w' h => (h.block _ (by omega)).trans i1
  rw [← hW1]
  clear hW1 i1
  refine (qf.out _).mono ?_
  rintro e w2 ⟨rfl, h2⟩
  have hz2 := h2.size
  have zl : w.heap.size < w2.heap.size := by omega
  have y0 : w2.cell? ⟨w.heap.size, 0, none⟩ = some (.int .i64 8) := box_cell (HI.out _ h2) rfl
  have y1 : w2.cell? ⟨w.heap.size, 1, none⟩ = some (.int .i64 0) := box_cell (HI.out _ h2) rfl
  have HB : Hid (Below w.heap.size w w2) := b1.trans (h2.mono b1.size)
  have HB2 : Hid (Below W1.heap.size W1 w2) := h2
  clear h2 b1 hz2 z1
  go_wp2_with fail
  go_region_with ((go_at_call 19; refine (names_any _).mono ?_; rintro e w3 ⟨g, rfl, hc3, hb3⟩; have n4 : w3.cell? ⟨g, 4, none⟩ = some (.string (nmA 4)) := hc3 4 (by omega); have y3 : w3.cell? ⟨w.heap.size, 0, none⟩ = some (.int .i64 8) := (hb3.cell (p := ⟨w.heap.size, 0, none⟩) (by first | exact zl | (simp; omega))).trans (by first | exact y0 | simpa using y0); have HB3 : Hid (Below w.heap.size w w3) := (by first | exact HB.out.trans (hb3.mono HB.out.size) | exact HB.out.drew.trans (hb3.mono HB.out.drew.size))))
  all_goals go_wp2
  all_goals go_ret
  all_goals exact ⟨rfl, (by first | exact HB3.out | exact HB3.out.drew)⟩

set_option maxHeartbeats 2000000 in
theorem specKt_n5  (w : World) :
    Calls Tryd.prog 6 #[.agg #[.int .i64 9, .int .i64 0]] w fun e w' => e = .returned (.string (nmA 5)) ∧ Below w.heap.size w w' := by
  have hF : kok 9 0 = true := rfl
  have qf : Hid (∀ w', Calls Tryd.prog 17 #[.agg #[.int .i64 9, .int .i64 0]] w' fun e w'' => e = .returned (.bool true) ∧ Below w'.heap.size w' w'') := fun w' => by have := specKok_any 9 0 w'; rw [hF] at this; exact this
  clear hF
  go_enter Tryd.func6, Tryd.ntmps6
  go_wp2_with fail
  obtain ⟨W1, hW1⟩ : ∃ U, U = w.alloc (.cells #[.int .i64 9, .int .i64 0] 25) := ⟨_, rfl⟩
  have b1 : Below w.heap.size w W1 := by rw [hW1]; exact (Below.refl _ _).alloc (Nat.le_refl _) _
  have i1 : W1.heap[w.heap.size]? = some (.cells #[.int .i64 9, .int .i64 0] 25 (0, 0)) := by rw [hW1]; exact heap_alloc_new w _
  have z1 : W1.heap.size = w.heap.size + 1 := by rw [hW1]; simp
  have HI : Hid (∀ w', Below W1.heap.size W1 w' → w'.heap[w.heap.size]? = some (.cells #[.int .i64 9, .int .i64 0] 25 (0, 0))) := fun w' h => (h.block _ (by omega)).trans i1
  rw [← hW1]
  clear hW1 i1
  refine (qf.out _).mono ?_
  rintro e w2 ⟨rfl, h2⟩
  have hz2 := h2.size
  have zl : w.heap.size < w2.heap.size := by omega
  have y0 : w2.cell? ⟨w.heap.size, 0, none⟩ = some (.int .i64 9) := box_cell (HI.out _ h2) rfl
  have y1 : w2.cell? ⟨w.heap.size, 1, none⟩ = some (.int .i64 0) := box_cell (HI.out _ h2) rfl
  have HB : Hid (Below w.heap.size w w2) := b1.trans (h2.mono b1.size)
  have HB2 : Hid (Below W1.heap.size W1 w2) := h2
  clear h2 b1 hz2 z1
  go_wp2_with fail
  go_region_with ((go_at_call 19; refine (names_any _).mono ?_; rintro e w3 ⟨g, rfl, hc3, hb3⟩; have n5 : w3.cell? ⟨g, 5, none⟩ = some (.string (nmA 5)) := hc3 5 (by omega); have y3 : w3.cell? ⟨w.heap.size, 0, none⟩ = some (.int .i64 9) := (hb3.cell (p := ⟨w.heap.size, 0, none⟩) (by first | exact zl | (simp; omega))).trans (by first | exact y0 | simpa using y0); have HB3 : Hid (Below w.heap.size w w3) := (by first | exact HB.out.trans (hb3.mono HB.out.size) | exact HB.out.drew.trans (hb3.mono HB.out.drew.size))))
  all_goals go_wp2
  all_goals go_ret
  all_goals exact ⟨rfl, (by first | exact HB3.out | exact HB3.out.drew)⟩

set_option maxHeartbeats 2000000 in
theorem specKt_n6  (w : World) :
    Calls Tryd.prog 6 #[.agg #[.int .i64 10, .int .i64 0]] w fun e w' => e = .returned (.string (nmA 6)) ∧ Below w.heap.size w w' := by
  have hF : kok 10 0 = true := rfl
  have qf : Hid (∀ w', Calls Tryd.prog 17 #[.agg #[.int .i64 10, .int .i64 0]] w' fun e w'' => e = .returned (.bool true) ∧ Below w'.heap.size w' w'') := fun w' => by have := specKok_any 10 0 w'; rw [hF] at this; exact this
  clear hF
  go_enter Tryd.func6, Tryd.ntmps6
  go_wp2_with fail
  obtain ⟨W1, hW1⟩ : ∃ U, U = w.alloc (.cells #[.int .i64 10, .int .i64 0] 25) := ⟨_, rfl⟩
  have b1 : Below w.heap.size w W1 := by rw [hW1]; exact (Below.refl _ _).alloc (Nat.le_refl _) _
  have i1 : W1.heap[w.heap.size]? = some (.cells #[.int .i64 10, .int .i64 0] 25 (0, 0)) := by rw [hW1]; exact heap_alloc_new w _
  have z1 : W1.heap.size = w.heap.size + 1 := by rw [hW1]; simp
  have HI : Hid (∀ w', Below W1.heap.size W1 w' → w'.heap[w.heap.size]? = some (.cells #[.int .i64 10, .int .i64 0] 25 (0, 0))) := fun w' h => (h.block _ (by omega)).trans i1
  rw [← hW1]
  clear hW1 i1
  refine (qf.out _).mono ?_
  rintro e w2 ⟨rfl, h2⟩
  have hz2 := h2.size
  have zl : w.heap.size < w2.heap.size := by omega
  have y0 : w2.cell? ⟨w.heap.size, 0, none⟩ = some (.int .i64 10) := box_cell (HI.out _ h2) rfl
  have y1 : w2.cell? ⟨w.heap.size, 1, none⟩ = some (.int .i64 0) := box_cell (HI.out _ h2) rfl
  have HB : Hid (Below w.heap.size w w2) := b1.trans (h2.mono b1.size)
  have HB2 : Hid (Below W1.heap.size W1 w2) := h2
  clear h2 b1 hz2 z1
  go_wp2_with fail
  go_region_with ((go_at_call 19; refine (names_any _).mono ?_; rintro e w3 ⟨g, rfl, hc3, hb3⟩; have n6 : w3.cell? ⟨g, 6, none⟩ = some (.string (nmA 6)) := hc3 6 (by omega); have y3 : w3.cell? ⟨w.heap.size, 0, none⟩ = some (.int .i64 10) := (hb3.cell (p := ⟨w.heap.size, 0, none⟩) (by first | exact zl | (simp; omega))).trans (by first | exact y0 | simpa using y0); have HB3 : Hid (Below w.heap.size w w3) := (by first | exact HB.out.trans (hb3.mono HB.out.size) | exact HB.out.drew.trans (hb3.mono HB.out.drew.size))))
  all_goals go_wp2
  all_goals go_ret
  all_goals exact ⟨rfl, (by first | exact HB3.out | exact HB3.out.drew)⟩

set_option maxHeartbeats 2000000 in
theorem specKt_n7  (w : World) :
    Calls Tryd.prog 6 #[.agg #[.int .i64 11, .int .i64 0]] w fun e w' => e = .returned (.string (nmA 7)) ∧ Below w.heap.size w w' := by
  have hF : kok 11 0 = true := rfl
  have qf : Hid (∀ w', Calls Tryd.prog 17 #[.agg #[.int .i64 11, .int .i64 0]] w' fun e w'' => e = .returned (.bool true) ∧ Below w'.heap.size w' w'') := fun w' => by have := specKok_any 11 0 w'; rw [hF] at this; exact this
  clear hF
  go_enter Tryd.func6, Tryd.ntmps6
  go_wp2_with fail
  obtain ⟨W1, hW1⟩ : ∃ U, U = w.alloc (.cells #[.int .i64 11, .int .i64 0] 25) := ⟨_, rfl⟩
  have b1 : Below w.heap.size w W1 := by rw [hW1]; exact (Below.refl _ _).alloc (Nat.le_refl _) _
  have i1 : W1.heap[w.heap.size]? = some (.cells #[.int .i64 11, .int .i64 0] 25 (0, 0)) := by rw [hW1]; exact heap_alloc_new w _
  have z1 : W1.heap.size = w.heap.size + 1 := by rw [hW1]; simp
  have HI : Hid (∀ w', Below W1.heap.size W1 w' → w'.heap[w.heap.size]? = some (.cells #[.int .i64 11, .int .i64 0] 25 (0, 0))) := fun w' h => (h.block _ (by omega)).trans i1
  rw [← hW1]
  clear hW1 i1
  refine (qf.out _).mono ?_
  rintro e w2 ⟨rfl, h2⟩
  have hz2 := h2.size
  have zl : w.heap.size < w2.heap.size := by omega
  have y0 : w2.cell? ⟨w.heap.size, 0, none⟩ = some (.int .i64 11) := box_cell (HI.out _ h2) rfl
  have y1 : w2.cell? ⟨w.heap.size, 1, none⟩ = some (.int .i64 0) := box_cell (HI.out _ h2) rfl
  have HB : Hid (Below w.heap.size w w2) := b1.trans (h2.mono b1.size)
  have HB2 : Hid (Below W1.heap.size W1 w2) := h2
  clear h2 b1 hz2 z1
  go_wp2_with fail
  go_region_with ((go_at_call 19; refine (names_any _).mono ?_; rintro e w3 ⟨g, rfl, hc3, hb3⟩; have n7 : w3.cell? ⟨g, 7, none⟩ = some (.string (nmA 7)) := hc3 7 (by omega); have y3 : w3.cell? ⟨w.heap.size, 0, none⟩ = some (.int .i64 11) := (hb3.cell (p := ⟨w.heap.size, 0, none⟩) (by first | exact zl | (simp; omega))).trans (by first | exact y0 | simpa using y0); have HB3 : Hid (Below w.heap.size w w3) := (by first | exact HB.out.trans (hb3.mono HB.out.size) | exact HB.out.drew.trans (hb3.mono HB.out.drew.size))))
  all_goals go_wp2
  all_goals go_ret
  all_goals exact ⟨rfl, (by first | exact HB3.out | exact HB3.out.drew)⟩

set_option maxHeartbeats 2000000 in
theorem specKt_n8  (w : World) :
    Calls Tryd.prog 6 #[.agg #[.int .i64 12, .int .i64 0]] w fun e w' => e = .returned (.string (nmA 8)) ∧ Below w.heap.size w w' := by
  have hF : kok 12 0 = true := rfl
  have qf : Hid (∀ w', Calls Tryd.prog 17 #[.agg #[.int .i64 12, .int .i64 0]] w' fun e w'' => e = .returned (.bool true) ∧ Below w'.heap.size w' w'') := fun w' => by have := specKok_any 12 0 w'; rw [hF] at this; exact this
  clear hF
  go_enter Tryd.func6, Tryd.ntmps6
  go_wp2_with fail
  obtain ⟨W1, hW1⟩ : ∃ U, U = w.alloc (.cells #[.int .i64 12, .int .i64 0] 25) := ⟨_, rfl⟩
  have b1 : Below w.heap.size w W1 := by rw [hW1]; exact (Below.refl _ _).alloc (Nat.le_refl _) _
  have i1 : W1.heap[w.heap.size]? = some (.cells #[.int .i64 12, .int .i64 0] 25 (0, 0)) := by rw [hW1]; exact heap_alloc_new w _
  have z1 : W1.heap.size = w.heap.size + 1 := by rw [hW1]; simp
  have HI : Hid (∀ w', Below W1.heap.size W1 w' → w'.heap[w.heap.size]? = some (.cells #[.int .i64 12, .int .i64 0] 25 (0, 0))) := fun w' h => (h.block _ (by omega)).trans i1
  rw [← hW1]
  clear hW1 i1
  refine (qf.out _).mono ?_
  rintro e w2 ⟨rfl, h2⟩
  have hz2 := h2.size
  have zl : w.heap.size < w2.heap.size := by omega
  have y0 : w2.cell? ⟨w.heap.size, 0, none⟩ = some (.int .i64 12) := box_cell (HI.out _ h2) rfl
  have y1 : w2.cell? ⟨w.heap.size, 1, none⟩ = some (.int .i64 0) := box_cell (HI.out _ h2) rfl
  have HB : Hid (Below w.heap.size w w2) := b1.trans (h2.mono b1.size)
  have HB2 : Hid (Below W1.heap.size W1 w2) := h2
  clear h2 b1 hz2 z1
  go_wp2_with fail
  go_region_with ((go_at_call 19; refine (names_any _).mono ?_; rintro e w3 ⟨g, rfl, hc3, hb3⟩; have n8 : w3.cell? ⟨g, 8, none⟩ = some (.string (nmA 8)) := hc3 8 (by omega); have y3 : w3.cell? ⟨w.heap.size, 0, none⟩ = some (.int .i64 12) := (hb3.cell (p := ⟨w.heap.size, 0, none⟩) (by first | exact zl | (simp; omega))).trans (by first | exact y0 | simpa using y0); have HB3 : Hid (Below w.heap.size w w3) := (by first | exact HB.out.trans (hb3.mono HB.out.size) | exact HB.out.drew.trans (hb3.mono HB.out.drew.size))))
  all_goals go_wp2
  all_goals go_ret
  all_goals exact ⟨rfl, (by first | exact HB3.out | exact HB3.out.drew)⟩

set_option maxHeartbeats 2000000 in
theorem specKt_n9  (w : World) :
    Calls Tryd.prog 6 #[.agg #[.int .i64 13, .int .i64 0]] w fun e w' => e = .returned (.string (nmA 9)) ∧ Below w.heap.size w w' := by
  have hF : kok 13 0 = true := rfl
  have qf : Hid (∀ w', Calls Tryd.prog 17 #[.agg #[.int .i64 13, .int .i64 0]] w' fun e w'' => e = .returned (.bool true) ∧ Below w'.heap.size w' w'') := fun w' => by have := specKok_any 13 0 w'; rw [hF] at this; exact this
  clear hF
  go_enter Tryd.func6, Tryd.ntmps6
  go_wp2_with fail
  obtain ⟨W1, hW1⟩ : ∃ U, U = w.alloc (.cells #[.int .i64 13, .int .i64 0] 25) := ⟨_, rfl⟩
  have b1 : Below w.heap.size w W1 := by rw [hW1]; exact (Below.refl _ _).alloc (Nat.le_refl _) _
  have i1 : W1.heap[w.heap.size]? = some (.cells #[.int .i64 13, .int .i64 0] 25 (0, 0)) := by rw [hW1]; exact heap_alloc_new w _
  have z1 : W1.heap.size = w.heap.size + 1 := by rw [hW1]; simp
  have HI : Hid (∀ w', Below W1.heap.size W1 w' → w'.heap[w.heap.size]? = some (.cells #[.int .i64 13, .int .i64 0] 25 (0, 0))) := fun w' h => (h.block _ (by omega)).trans i1
  rw [← hW1]
  clear hW1 i1
  refine (qf.out _).mono ?_
  rintro e w2 ⟨rfl, h2⟩
  have hz2 := h2.size
  have zl : w.heap.size < w2.heap.size := by omega
  have y0 : w2.cell? ⟨w.heap.size, 0, none⟩ = some (.int .i64 13) := box_cell (HI.out _ h2) rfl
  have y1 : w2.cell? ⟨w.heap.size, 1, none⟩ = some (.int .i64 0) := box_cell (HI.out _ h2) rfl
  have HB : Hid (Below w.heap.size w w2) := b1.trans (h2.mono b1.size)
  have HB2 : Hid (Below W1.heap.size W1 w2) := h2
  clear h2 b1 hz2 z1
  go_wp2_with fail
  go_region_with ((go_at_call 19; refine (names_any _).mono ?_; rintro e w3 ⟨g, rfl, hc3, hb3⟩; have n9 : w3.cell? ⟨g, 9, none⟩ = some (.string (nmA 9)) := hc3 9 (by omega); have y3 : w3.cell? ⟨w.heap.size, 0, none⟩ = some (.int .i64 13) := (hb3.cell (p := ⟨w.heap.size, 0, none⟩) (by first | exact zl | (simp; omega))).trans (by first | exact y0 | simpa using y0); have HB3 : Hid (Below w.heap.size w w3) := (by first | exact HB.out.trans (hb3.mono HB.out.size) | exact HB.out.drew.trans (hb3.mono HB.out.drew.size))))
  all_goals go_wp2
  all_goals go_ret
  all_goals exact ⟨rfl, (by first | exact HB3.out | exact HB3.out.drew)⟩

set_option maxHeartbeats 2000000 in
theorem specKt_n10  (w : World) :
    Calls Tryd.prog 6 #[.agg #[.int .i64 14, .int .i64 0]] w fun e w' => e = .returned (.string (nmA 10)) ∧ Below w.heap.size w w' := by
  have hF : kok 14 0 = true := rfl
  have qf : Hid (∀ w', Calls Tryd.prog 17 #[.agg #[.int .i64 14, .int .i64 0]] w' fun e w'' => e = .returned (.bool true) ∧ Below w'.heap.size w' w'') := fun w' => by have := specKok_any 14 0 w'; rw [hF] at this; exact this
  clear hF
  go_enter Tryd.func6, Tryd.ntmps6
  go_wp2_with fail
  obtain ⟨W1, hW1⟩ : ∃ U, U = w.alloc (.cells #[.int .i64 14, .int .i64 0] 25) := ⟨_, rfl⟩
  have b1 : Below w.heap.size w W1 := by rw [hW1]; exact (Below.refl _ _).alloc (Nat.le_refl _) _
  have i1 : W1.heap[w.heap.size]? = some (.cells #[.int .i64 14, .int .i64 0] 25 (0, 0)) := by rw [hW1]; exact heap_alloc_new w _
  have z1 : W1.heap.size = w.heap.size + 1 := by rw [hW1]; simp
  have HI : Hid (∀ w', Below W1.heap.size W1 w' → w'.heap[w.heap.size]? = some (.cells #[.int .i64 14, .int .i64 0] 25 (0, 0))) := fun w' h => (h.block _ (by omega)).trans i1
  rw [← hW1]
  clear hW1 i1
  refine (qf.out _).mono ?_
  rintro e w2 ⟨rfl, h2⟩
  have hz2 := h2.size
  have zl : w.heap.size < w2.heap.size := by omega
  have y0 : w2.cell? ⟨w.heap.size, 0, none⟩ = some (.int .i64 14) := box_cell (HI.out _ h2) rfl
  have y1 : w2.cell? ⟨w.heap.size, 1, none⟩ = some (.int .i64 0) := box_cell (HI.out _ h2) rfl
  have HB : Hid (Below w.heap.size w w2) := b1.trans (h2.mono b1.size)
  have HB2 : Hid (Below W1.heap.size W1 w2) := h2
  clear h2 b1 hz2 z1
  go_wp2_with fail
  go_region_with ((go_at_call 19; refine (names_any _).mono ?_; rintro e w3 ⟨g, rfl, hc3, hb3⟩; have n10 : w3.cell? ⟨g, 10, none⟩ = some (.string (nmA 10)) := hc3 10 (by omega); have y3 : w3.cell? ⟨w.heap.size, 0, none⟩ = some (.int .i64 14) := (hb3.cell (p := ⟨w.heap.size, 0, none⟩) (by first | exact zl | (simp; omega))).trans (by first | exact y0 | simpa using y0); have HB3 : Hid (Below w.heap.size w w3) := (by first | exact HB.out.trans (hb3.mono HB.out.size) | exact HB.out.drew.trans (hb3.mono HB.out.drew.size))))
  all_goals go_wp2
  all_goals go_ret
  all_goals exact ⟨rfl, (by first | exact HB3.out | exact HB3.out.drew)⟩

set_option maxHeartbeats 2000000 in
theorem specKt_n11  (w : World) :
    Calls Tryd.prog 6 #[.agg #[.int .i64 15, .int .i64 0]] w fun e w' => e = .returned (.string (nmA 11)) ∧ Below w.heap.size w w' := by
  have hF : kok 15 0 = true := rfl
  have qf : Hid (∀ w', Calls Tryd.prog 17 #[.agg #[.int .i64 15, .int .i64 0]] w' fun e w'' => e = .returned (.bool true) ∧ Below w'.heap.size w' w'') := fun w' => by have := specKok_any 15 0 w'; rw [hF] at this; exact this
  clear hF
  go_enter Tryd.func6, Tryd.ntmps6
  go_wp2_with fail
  obtain ⟨W1, hW1⟩ : ∃ U, U = w.alloc (.cells #[.int .i64 15, .int .i64 0] 25) := ⟨_, rfl⟩
  have b1 : Below w.heap.size w W1 := by rw [hW1]; exact (Below.refl _ _).alloc (Nat.le_refl _) _
  have i1 : W1.heap[w.heap.size]? = some (.cells #[.int .i64 15, .int .i64 0] 25 (0, 0)) := by rw [hW1]; exact heap_alloc_new w _
  have z1 : W1.heap.size = w.heap.size + 1 := by rw [hW1]; simp
  have HI : Hid (∀ w', Below W1.heap.size W1 w' → w'.heap[w.heap.size]? = some (.cells #[.int .i64 15, .int .i64 0] 25 (0, 0))) := fun w' h => (h.block _ (by omega)).trans i1
  rw [← hW1]
  clear hW1 i1
  refine (qf.out _).mono ?_
  rintro e w2 ⟨rfl, h2⟩
  have hz2 := h2.size
  have zl : w.heap.size < w2.heap.size := by omega
  have y0 : w2.cell? ⟨w.heap.size, 0, none⟩ = some (.int .i64 15) := box_cell (HI.out _ h2) rfl
  have y1 : w2.cell? ⟨w.heap.size, 1, none⟩ = some (.int .i64 0) := box_cell (HI.out _ h2) rfl
  have HB : Hid (Below w.heap.size w w2) := b1.trans (h2.mono b1.size)
  have HB2 : Hid (Below W1.heap.size W1 w2) := h2
  clear h2 b1 hz2 z1
  go_wp2_with fail
  go_region_with ((go_at_call 19; refine (names_any _).mono ?_; rintro e w3 ⟨g, rfl, hc3, hb3⟩; have n11 : w3.cell? ⟨g, 11, none⟩ = some (.string (nmA 11)) := hc3 11 (by omega); have y3 : w3.cell? ⟨w.heap.size, 0, none⟩ = some (.int .i64 15) := (hb3.cell (p := ⟨w.heap.size, 0, none⟩) (by first | exact zl | (simp; omega))).trans (by first | exact y0 | simpa using y0); have HB3 : Hid (Below w.heap.size w w3) := (by first | exact HB.out.trans (hb3.mono HB.out.size) | exact HB.out.drew.trans (hb3.mono HB.out.drew.size))))
  all_goals go_wp2
  all_goals go_ret
  all_goals exact ⟨rfl, (by first | exact HB3.out | exact HB3.out.drew)⟩

set_option maxHeartbeats 2000000 in
theorem specKt_n12  (w : World) :
    Calls Tryd.prog 6 #[.agg #[.int .i64 16, .int .i64 0]] w fun e w' => e = .returned (.string (nmA 12)) ∧ Below w.heap.size w w' := by
  have hF : kok 16 0 = true := rfl
  have qf : Hid (∀ w', Calls Tryd.prog 17 #[.agg #[.int .i64 16, .int .i64 0]] w' fun e w'' => e = .returned (.bool true) ∧ Below w'.heap.size w' w'') := fun w' => by have := specKok_any 16 0 w'; rw [hF] at this; exact this
  clear hF
  go_enter Tryd.func6, Tryd.ntmps6
  go_wp2_with fail
  obtain ⟨W1, hW1⟩ : ∃ U, U = w.alloc (.cells #[.int .i64 16, .int .i64 0] 25) := ⟨_, rfl⟩
  have b1 : Below w.heap.size w W1 := by rw [hW1]; exact (Below.refl _ _).alloc (Nat.le_refl _) _
  have i1 : W1.heap[w.heap.size]? = some (.cells #[.int .i64 16, .int .i64 0] 25 (0, 0)) := by rw [hW1]; exact heap_alloc_new w _
  have z1 : W1.heap.size = w.heap.size + 1 := by rw [hW1]; simp
  have HI : Hid (∀ w', Below W1.heap.size W1 w' → w'.heap[w.heap.size]? = some (.cells #[.int .i64 16, .int .i64 0] 25 (0, 0))) := fun w' h => (h.block _ (by omega)).trans i1
  rw [← hW1]
  clear hW1 i1
  refine (qf.out _).mono ?_
  rintro e w2 ⟨rfl, h2⟩
  have hz2 := h2.size
  have zl : w.heap.size < w2.heap.size := by omega
  have y0 : w2.cell? ⟨w.heap.size, 0, none⟩ = some (.int .i64 16) := box_cell (HI.out _ h2) rfl
  have y1 : w2.cell? ⟨w.heap.size, 1, none⟩ = some (.int .i64 0) := box_cell (HI.out _ h2) rfl
  have HB : Hid (Below w.heap.size w w2) := b1.trans (h2.mono b1.size)
  have HB2 : Hid (Below W1.heap.size W1 w2) := h2
  clear h2 b1 hz2 z1
  go_wp2_with fail
  go_region_with ((go_at_call 19; refine (names_any _).mono ?_; rintro e w3 ⟨g, rfl, hc3, hb3⟩; have n12 : w3.cell? ⟨g, 12, none⟩ = some (.string (nmA 12)) := hc3 12 (by omega); have y3 : w3.cell? ⟨w.heap.size, 0, none⟩ = some (.int .i64 16) := (hb3.cell (p := ⟨w.heap.size, 0, none⟩) (by first | exact zl | (simp; omega))).trans (by first | exact y0 | simpa using y0); have HB3 : Hid (Below w.heap.size w w3) := (by first | exact HB.out.trans (hb3.mono HB.out.size) | exact HB.out.drew.trans (hb3.mono HB.out.drew.size))))
  all_goals go_wp2
  all_goals go_ret
  all_goals exact ⟨rfl, (by first | exact HB3.out | exact HB3.out.drew)⟩

theorem specKt_any (k r : Int) (w : World) :
    Calls Tryd.prog 6 #[.agg #[.int .i64 k, .int .i64 r]] w fun e w' => e = .returned (.string (ktx k r)) ∧ Below w.heap.size w w' := by
  rcases kt_cases k r with ⟨h, e⟩ | ⟨h, rfl, e⟩ | ⟨h, h32, e⟩ | ⟨h, e⟩ | ⟨h, e⟩ | h
  · rw [e]; exact specKt_0 k r (by unfold kok; rw [h]; rfl) w
  · obtain rfl := kForm_1 h; rw [e]; exact specKt_s (by unfold kok; rw [h]; rfl) w
  · obtain rfl := kForm_1 h; rw [e]; exact specKt_1 r (by unfold kok; rw [h]; rfl) h32 w
  · obtain rfl := kForm_2 h; rw [e]; exact specKt_2 r (by unfold kok; rw [h]; rfl) w
  · obtain rfl := kForm_3 h; rw [e]; exact specKt_3 r (by unfold kok; rw [h]; rfl) w
  rcases h with ⟨rfl, h⟩
  rcases h with ⟨rfl, e⟩ | ⟨rfl, e⟩ | ⟨rfl, e⟩ | ⟨rfl, e⟩ | ⟨rfl, e⟩ | ⟨rfl, e⟩ | ⟨rfl, e⟩ | ⟨rfl, e⟩ | ⟨rfl, e⟩ | ⟨rfl, e⟩ | ⟨rfl, e⟩ | ⟨rfl, e⟩ | ⟨rfl, e⟩
  · rw [e]; exact specKt_n0 w
  · rw [e]; exact specKt_n1 w
  · rw [e]; exact specKt_n2 w
  · rw [e]; exact specKt_n3 w
  · rw [e]; exact specKt_n4 w
  · rw [e]; exact specKt_n5 w
  · rw [e]; exact specKt_n6 w
  · rw [e]; exact specKt_n7 w
  · rw [e]; exact specKt_n8 w
  · rw [e]; exact specKt_n9 w
  · rw [e]; exact specKt_n10 w
  · rw [e]; exact specKt_n11 w
  · rw [e]; exact specKt_n12 w

end Go.Proofs.YtndlehogfedfaaaDoor
