/-
  The walk of the law FnExactVtNew over the contracts of its two functions. By program (lawgen3.py).
-/
import Derived.Test.YtojalheohpkdoaaMkVt
import Derived.Test.YtojalheohpkdoaaVI
namespace Go.Proofs.Ytojalheohpkdoaa
open Go.RowKit
set_option linter.unusedVariables false

set_option maxRecDepth 100000 in
set_option maxHeartbeats 8000000 in
theorem vtNew_over (n0 : Int) (n1 : Int) (D0 : shVt.D) (V1 : Bool) (w : World) (hD0 : shVt.sz D0 ≤ 1048576) (hC0 : shVt.cntV D0 ≤ 1000000000)
    (hS : ∀ w', Calls Try.prog 4 #[.int .i64 n0, .int .i64 n1] w' fun e w'' => ∃ o0, e = .returned (.tuple #[.agg o0.toArray, .bool V1]) ∧ Reads shVt w'' o0 D0 ∧ Below w'.heap.size w' w'')
    (hI : ∀ w', Calls Try.prog 5 #[.int .i64 n0, .int .i64 n1] w' fun e w'' => ∃ o0 F0, e = .returned (.tuple #[.agg o0.toArray, .bool V1]) ∧ Own shVt w'' w'.heap.size o0 D0 F0 ∧ F0.Nodup ∧ Below w'.heap.size w' w'') :
    Calls Try.prog 3 #[.int .i64 n0, .int .i64 n1] w fun e w' => e = .returned (.bool true) ∧ Below w.heap.size w w' := by
  have qS : Hid (∀ w', Calls Try.prog 4 #[.int .i64 n0, .int .i64 n1] w' fun e w'' => ∃ o0, e = .returned (.tuple #[.agg o0.toArray, .bool V1]) ∧ Reads shVt w'' o0 D0 ∧ Below w'.heap.size w' w'') := hS
  have qI : Hid (∀ w', Calls Try.prog 5 #[.int .i64 n0, .int .i64 n1] w' fun e w'' => ∃ o0 F0, e = .returned (.tuple #[.agg o0.toArray, .bool V1]) ∧ Own shVt w'' w'.heap.size o0 D0 F0 ∧ F0.Nodup ∧ Below w'.heap.size w' w'') := hI
  have HD0 : Hid (_ ∧ _) := ⟨hD0, hC0⟩
  have hne1 : (V1 != V1) = false := by cases V1 <;> rfl
  obtain ⟨xO0_0, eO0_0⟩ : ∃ x : Int, x = D0.1.1 := ⟨_, rfl⟩
  obtain ⟨xO0_1, eO0_1⟩ : ∃ x : Int, x = D0.1.2.1 := ⟨_, rfl⟩
  obtain ⟨xO0_3, eO0_3⟩ : ∃ x : Int, x = D0.1.2.2.2.1 := ⟨_, rfl⟩
  obtain ⟨xO0_4, eO0_4⟩ : ∃ x : Int, x = D0.1.2.2.2.2.1 := ⟨_, rfl⟩
  obtain ⟨xO0_5, eO0_5⟩ : ∃ x : Bool, x = D0.1.2.2.2.2.2.1 := ⟨_, rfl⟩
  obtain ⟨xO0_6, eO0_6⟩ : ∃ x : Int, x = D0.2.1 := ⟨_, rfl⟩
  obtain ⟨xO0_9, eO0_9⟩ : ∃ x : Int, x = D0.2.2.2.2.1 := ⟨_, rfl⟩
  have HEO0 : Hid (xO0_0 = D0.1.1 ∧ xO0_1 = D0.1.2.1 ∧ xO0_3 = D0.1.2.2.2.1 ∧ xO0_4 = D0.1.2.2.2.2.1 ∧ xO0_5 = D0.1.2.2.2.2.2.1 ∧ xO0_6 = D0.2.1 ∧ xO0_9 = D0.2.2.2.2.1 ∧ True ∧ True) := ⟨eO0_0, eO0_1, eO0_3, eO0_4, eO0_5, eO0_6, eO0_9, trivial, trivial⟩
  clear hS hI hD0 hC0 eO0_0 eO0_1 eO0_3 eO0_4 eO0_5 eO0_6 eO0_9
  go_enter Try.func3, Try.ntmps3
  go_wp2_with fail
  refine (qS.out _   ).mono ?_
  rintro e w1 ⟨W0, he_W, p_W0, hbw1⟩
  have RW0 : Hid (Reads shVt w1 W0 D0) := p_W0
  have zw1 : w.heap.size ≤ w1.heap.size := hbw1.size
  have bw1 := (Below.refl w.heap.size w).trans (hbw1.mono (Below.refl w.heap.size w).size)
  clear hbw1
  have sw1 : Below w1.heap.size w1 w1 := Below.refl _ _
  obtain ⟨aW0_2, nW0_2, cW0_2, aW0_7, nW0_7, cW0_7, aW0_8, nW0_8, cW0_8, hq_W0, _⟩ := open_Vt p_W0
  rw [← HEO0.out.1, ← HEO0.out.2.1, ← HEO0.out.2.2.1, ← HEO0.out.2.2.2.1, ← HEO0.out.2.2.2.2.1, ← HEO0.out.2.2.2.2.2.1, ← HEO0.out.2.2.2.2.2.2.1] at hq_W0
  subst hq_W0
  subst he_W
  clear p_W0
  go_wp2_with fail
  obtain ⟨w2, hw2⟩ : ∃ W, W = w1.alloc (.cells #[.int .i64 xO0_0, .int .i64 xO0_1, .slice aW0_2 nW0_2 cW0_2, .int .i64 xO0_3, .int .i64 xO0_4, .bool xO0_5, .int .i64 xO0_6, .slice aW0_7 nW0_7 cW0_7, .slice aW0_8 nW0_8 cW0_8, .int .i64 xO0_9] 27) := ⟨_, rfl⟩
  have hbw2 : Below w1.heap.size w1 w2 := by rw [hw2]; exact (Below.refl _ _).alloc (Nat.le_refl _) _
  have i_W0_w2 : Hid (w2.heap[w1.heap.size]? = some (.cells #[.int .i64 xO0_0, .int .i64 xO0_1, .slice aW0_2 nW0_2 cW0_2, .int .i64 xO0_3, .int .i64 xO0_4, .bool xO0_5, .int .i64 xO0_6, .slice aW0_7 nW0_7 cW0_7, .slice aW0_8 nW0_8 cW0_8, .int .i64 xO0_9] 27 (0, 0))) := by show _ = _; rw [hw2]; exact heap_alloc_new w1 _
  have zzw2 : w2.heap.size = w1.heap.size + 1 := by rw [hw2]; simp
  rw [← hw2]
  clear hw2
  have zw2 : w1.heap.size ≤ w2.heap.size := hbw2.size
  have bw2 := bw1.trans (hbw2.mono bw1.size)
  clear bw1
  have sw2 := sw1.trans (hbw2.mono sw1.size)
  clear sw1
  clear hbw2
  refine (qI.out _   ).mono ?_
  rintro e w3 ⟨g0, F_g0, he_g, p_g0, nd_g0, hbw3⟩
  have zw3 : w2.heap.size ≤ w3.heap.size := hbw3.size
  have bw3 := bw2.trans (hbw3.mono bw2.size)
  clear bw2
  have sw3 := sw2.trans (hbw3.mono sw2.size)
  clear sw2
  have i_W0_w3 : Hid (w3.heap[w1.heap.size]? = some (.cells #[.int .i64 xO0_0, .int .i64 xO0_1, .slice aW0_2 nW0_2 cW0_2, .int .i64 xO0_3, .int .i64 xO0_4, .bool xO0_5, .int .i64 xO0_6, .slice aW0_7 nW0_7 cW0_7, .slice aW0_8 nW0_8 cW0_8, .int .i64 xO0_9] 27 (0, 0))) := (hbw3.block _ (by omega)).trans i_W0_w2.out
  clear i_W0_w2
  clear hbw3
  have lt_g0 : Hid (∀ g ∈ F_g0, w2.heap.size ≤ g ∧ g < w3.heap.size) := p_g0.lt
  obtain ⟨ag0_2, ng0_2, cg0_2, ag0_7, ng0_7, cg0_7, ag0_8, ng0_8, cg0_8, hq_g0, _⟩ := open_Vt p_g0.reads
  rw [← HEO0.out.1, ← HEO0.out.2.1, ← HEO0.out.2.2.1, ← HEO0.out.2.2.2.1, ← HEO0.out.2.2.2.2.1, ← HEO0.out.2.2.2.2.2.1, ← HEO0.out.2.2.2.2.2.2.1] at hq_g0
  subst hq_g0
  subst he_g
  have zl_W0 : w1.heap.size < w3.heap.size := by omega
  have y_W0_0 : w3.cell? ⟨w1.heap.size, 0, none⟩ = some (.int .i64 xO0_0) := box_cell i_W0_w3.out rfl
  have y_W0_1 : w3.cell? ⟨w1.heap.size, 1, none⟩ = some (.int .i64 xO0_1) := box_cell i_W0_w3.out rfl
  have y_W0_2 : w3.cell? ⟨w1.heap.size, 2, none⟩ = some (.slice aW0_2 nW0_2 cW0_2) := box_cell i_W0_w3.out rfl
  have y_W0_3 : w3.cell? ⟨w1.heap.size, 3, none⟩ = some (.int .i64 xO0_3) := box_cell i_W0_w3.out rfl
  have y_W0_4 : w3.cell? ⟨w1.heap.size, 4, none⟩ = some (.int .i64 xO0_4) := box_cell i_W0_w3.out rfl
  have y_W0_5 : w3.cell? ⟨w1.heap.size, 5, none⟩ = some (.bool xO0_5) := box_cell i_W0_w3.out rfl
  have y_W0_6 : w3.cell? ⟨w1.heap.size, 6, none⟩ = some (.int .i64 xO0_6) := box_cell i_W0_w3.out rfl
  have y_W0_7 : w3.cell? ⟨w1.heap.size, 7, none⟩ = some (.slice aW0_7 nW0_7 cW0_7) := box_cell i_W0_w3.out rfl
  have y_W0_8 : w3.cell? ⟨w1.heap.size, 8, none⟩ = some (.slice aW0_8 nW0_8 cW0_8) := box_cell i_W0_w3.out rfl
  have y_W0_9 : w3.cell? ⟨w1.heap.size, 9, none⟩ = some (.int .i64 xO0_9) := box_cell i_W0_w3.out rfl
  go_wp2_with fail
  clear zl_W0 y_W0_0 y_W0_1 y_W0_2 y_W0_3 y_W0_4 y_W0_5 y_W0_6 y_W0_7 y_W0_8 y_W0_9
  obtain ⟨w4, hw4⟩ : ∃ W, W = w3.alloc (.cells #[.int .i64 xO0_0, .int .i64 xO0_1, .slice ag0_2 ng0_2 cg0_2, .int .i64 xO0_3, .int .i64 xO0_4, .bool xO0_5, .int .i64 xO0_6, .slice ag0_7 ng0_7 cg0_7, .slice ag0_8 ng0_8 cg0_8, .int .i64 xO0_9] 27) := ⟨_, rfl⟩
  have hbw4 : Below w3.heap.size w3 w4 := by rw [hw4]; exact (Below.refl _ _).alloc (Nat.le_refl _) _
  have i_g0_w4 : Hid (w4.heap[w3.heap.size]? = some (.cells #[.int .i64 xO0_0, .int .i64 xO0_1, .slice ag0_2 ng0_2 cg0_2, .int .i64 xO0_3, .int .i64 xO0_4, .bool xO0_5, .int .i64 xO0_6, .slice ag0_7 ng0_7 cg0_7, .slice ag0_8 ng0_8 cg0_8, .int .i64 xO0_9] 27 (0, 0))) := by show _ = _; rw [hw4]; exact heap_alloc_new w3 _
  have zzw4 : w4.heap.size = w3.heap.size + 1 := by rw [hw4]; simp
  rw [← hw4]
  clear hw4
  have zw4 : w3.heap.size ≤ w4.heap.size := hbw4.size
  have bw4 := bw3.trans (hbw4.mono bw3.size)
  clear bw3
  have sw4 := sw3.trans (hbw4.mono sw3.size)
  clear sw3
  have o_g0_w4 := p_g0.later hbw4
  clear p_g0
  have i_W0_w4 : Hid (w4.heap[w1.heap.size]? = some (.cells #[.int .i64 xO0_0, .int .i64 xO0_1, .slice aW0_2 nW0_2 cW0_2, .int .i64 xO0_3, .int .i64 xO0_4, .bool xO0_5, .int .i64 xO0_6, .slice aW0_7 nW0_7 cW0_7, .slice aW0_8 nW0_8 cW0_8, .int .i64 xO0_9] 27 (0, 0))) := (hbw4.block _ (by omega)).trans i_W0_w3.out
  clear i_W0_w3
  clear hbw4
  refine (eqVt_any _ _ D0 _ o_g0_w4.reads (RW0.out.later sw4) HD0.out.1).mono ?_
  rintro e w5 ⟨rfl, hbw5⟩
  have zw5 : w4.heap.size ≤ w5.heap.size := hbw5.size
  have bw5 := bw4.trans (hbw5.mono bw4.size)
  clear bw4
  have sw5 := sw4.trans (hbw5.mono sw4.size)
  clear sw4
  have o_g0_w5 := o_g0_w4.later hbw5
  clear o_g0_w4
  have i_W0_w5 : Hid (w5.heap[w1.heap.size]? = some (.cells #[.int .i64 xO0_0, .int .i64 xO0_1, .slice aW0_2 nW0_2 cW0_2, .int .i64 xO0_3, .int .i64 xO0_4, .bool xO0_5, .int .i64 xO0_6, .slice aW0_7 nW0_7 cW0_7, .slice aW0_8 nW0_8 cW0_8, .int .i64 xO0_9] 27 (0, 0))) := (hbw5.block _ (by omega)).trans i_W0_w4.out
  clear i_W0_w4
  have i_g0_w5 : Hid (w5.heap[w3.heap.size]? = some (.cells #[.int .i64 xO0_0, .int .i64 xO0_1, .slice ag0_2 ng0_2 cg0_2, .int .i64 xO0_3, .int .i64 xO0_4, .bool xO0_5, .int .i64 xO0_6, .slice ag0_7 ng0_7 cg0_7, .slice ag0_8 ng0_8 cg0_8, .int .i64 xO0_9] 27 (0, 0))) := (hbw5.block _ (by omega)).trans i_g0_w4.out
  clear i_g0_w4
  clear hbw5
  have hcj0 := HD0.out.2
  have zl_g0 : w3.heap.size < w5.heap.size := by omega
  have y_g0_0 : w5.cell? ⟨w3.heap.size, 0, none⟩ = some (.int .i64 xO0_0) := box_cell i_g0_w5.out rfl
  have y_g0_1 : w5.cell? ⟨w3.heap.size, 1, none⟩ = some (.int .i64 xO0_1) := box_cell i_g0_w5.out rfl
  have y_g0_2 : w5.cell? ⟨w3.heap.size, 2, none⟩ = some (.slice ag0_2 ng0_2 cg0_2) := box_cell i_g0_w5.out rfl
  have y_g0_3 : w5.cell? ⟨w3.heap.size, 3, none⟩ = some (.int .i64 xO0_3) := box_cell i_g0_w5.out rfl
  have y_g0_4 : w5.cell? ⟨w3.heap.size, 4, none⟩ = some (.int .i64 xO0_4) := box_cell i_g0_w5.out rfl
  have y_g0_5 : w5.cell? ⟨w3.heap.size, 5, none⟩ = some (.bool xO0_5) := box_cell i_g0_w5.out rfl
  have y_g0_6 : w5.cell? ⟨w3.heap.size, 6, none⟩ = some (.int .i64 xO0_6) := box_cell i_g0_w5.out rfl
  have y_g0_7 : w5.cell? ⟨w3.heap.size, 7, none⟩ = some (.slice ag0_7 ng0_7 cg0_7) := box_cell i_g0_w5.out rfl
  have y_g0_8 : w5.cell? ⟨w3.heap.size, 8, none⟩ = some (.slice ag0_8 ng0_8 cg0_8) := box_cell i_g0_w5.out rfl
  have y_g0_9 : w5.cell? ⟨w3.heap.size, 9, none⟩ = some (.int .i64 xO0_9) := box_cell i_g0_w5.out rfl
  go_wp2_with fail
  clear zl_g0 y_g0_0 y_g0_1 y_g0_2 y_g0_3 y_g0_4 y_g0_5 y_g0_6 y_g0_7 y_g0_8 y_g0_9
  refine (markVt_own _ _ (1) D0 F_g0 _ o_g0_w5 nd_g0 (by omega) (by omega)).mono ?_
  rintro e w6 ⟨rfl, p2_g0, htw6⟩
  have zw6 : w5.heap.size ≤ w6.heap.size := htw6.size
  have bw6 := htw6.below bw5 bw5.size (fun g hg => by have h9 := (lt_g0.out g hg).1; omega)
  clear bw5
  have sw6 := htw6.below sw5 sw5.size (fun g hg => by have h9 := (lt_g0.out g hg).1; omega)
  clear sw5
  clear o_g0_w5
  have i_W0_w6 : Hid (w6.heap[w1.heap.size]? = some (.cells #[.int .i64 xO0_0, .int .i64 xO0_1, .slice aW0_2 nW0_2 cW0_2, .int .i64 xO0_3, .int .i64 xO0_4, .bool xO0_5, .int .i64 xO0_6, .slice aW0_7 nW0_7 cW0_7, .slice aW0_8 nW0_8 cW0_8, .int .i64 xO0_9] 27 (0, 0))) := (htw6.block _ (by omega) (fun hm => by have h9 := lt_g0.out _ hm; omega)).trans i_W0_w5.out
  clear i_W0_w5
  have i_g0_w6 : Hid (w6.heap[w3.heap.size]? = some (.cells #[.int .i64 xO0_0, .int .i64 xO0_1, .slice ag0_2 ng0_2 cg0_2, .int .i64 xO0_3, .int .i64 xO0_4, .bool xO0_5, .int .i64 xO0_6, .slice ag0_7 ng0_7 cg0_7, .slice ag0_8 ng0_8 cg0_8, .int .i64 xO0_9] 27 (0, 0))) := (htw6.block _ (by omega) (fun hm => by have h9 := lt_g0.out _ hm; omega)).trans i_g0_w5.out
  clear i_g0_w5
  clear htw6
  have hqq : ¬ (((1 + shVt.cntV D0 : Nat) : Int) < 0) := by omega
  have hmm : ((((1 + shVt.cntV D0 : Nat) : Int)) != (((1 + shVt.cntV D0 : Nat) : Int))) = false := by simp
  have zl_g0 : w3.heap.size < w6.heap.size := by omega
  have y_g0_0 : w6.cell? ⟨w3.heap.size, 0, none⟩ = some (.int .i64 xO0_0) := box_cell i_g0_w6.out rfl
  have y_g0_1 : w6.cell? ⟨w3.heap.size, 1, none⟩ = some (.int .i64 xO0_1) := box_cell i_g0_w6.out rfl
  have y_g0_2 : w6.cell? ⟨w3.heap.size, 2, none⟩ = some (.slice ag0_2 ng0_2 cg0_2) := box_cell i_g0_w6.out rfl
  have y_g0_3 : w6.cell? ⟨w3.heap.size, 3, none⟩ = some (.int .i64 xO0_3) := box_cell i_g0_w6.out rfl
  have y_g0_4 : w6.cell? ⟨w3.heap.size, 4, none⟩ = some (.int .i64 xO0_4) := box_cell i_g0_w6.out rfl
  have y_g0_5 : w6.cell? ⟨w3.heap.size, 5, none⟩ = some (.bool xO0_5) := box_cell i_g0_w6.out rfl
  have y_g0_6 : w6.cell? ⟨w3.heap.size, 6, none⟩ = some (.int .i64 xO0_6) := box_cell i_g0_w6.out rfl
  have y_g0_7 : w6.cell? ⟨w3.heap.size, 7, none⟩ = some (.slice ag0_7 ng0_7 cg0_7) := box_cell i_g0_w6.out rfl
  have y_g0_8 : w6.cell? ⟨w3.heap.size, 8, none⟩ = some (.slice ag0_8 ng0_8 cg0_8) := box_cell i_g0_w6.out rfl
  have y_g0_9 : w6.cell? ⟨w3.heap.size, 9, none⟩ = some (.int .i64 xO0_9) := box_cell i_g0_w6.out rfl
  go_wp2_with fail
  clear zl_g0 y_g0_0 y_g0_1 y_g0_2 y_g0_3 y_g0_4 y_g0_5 y_g0_6 y_g0_7 y_g0_8 y_g0_9
  refine (heldVt_own _ _ (1) D0 F_g0 _ p2_g0 nd_g0 (by omega) (by omega)).mono ?_
  rintro e w7 ⟨rfl, hbw7⟩
  have zw7 : w6.heap.size ≤ w7.heap.size := hbw7.size
  have bw7 := bw6.trans (hbw7.mono bw6.size)
  clear bw6
  have sw7 := sw6.trans (hbw7.mono sw6.size)
  clear sw6
  have o_g0_w7 := p2_g0.later hbw7
  clear p2_g0
  have i_W0_w7 : Hid (w7.heap[w1.heap.size]? = some (.cells #[.int .i64 xO0_0, .int .i64 xO0_1, .slice aW0_2 nW0_2 cW0_2, .int .i64 xO0_3, .int .i64 xO0_4, .bool xO0_5, .int .i64 xO0_6, .slice aW0_7 nW0_7 cW0_7, .slice aW0_8 nW0_8 cW0_8, .int .i64 xO0_9] 27 (0, 0))) := (hbw7.block _ (by omega)).trans i_W0_w6.out
  clear i_W0_w6
  have i_g0_w7 : Hid (w7.heap[w3.heap.size]? = some (.cells #[.int .i64 xO0_0, .int .i64 xO0_1, .slice ag0_2 ng0_2 cg0_2, .int .i64 xO0_3, .int .i64 xO0_4, .bool xO0_5, .int .i64 xO0_6, .slice ag0_7 ng0_7 cg0_7, .slice ag0_8 ng0_8 cg0_8, .int .i64 xO0_9] 27 (0, 0))) := (hbw7.block _ (by omega)).trans i_g0_w6.out
  clear i_g0_w6
  clear hbw7
  go_wp2_with fail
  refine (qI.out _   ).mono ?_
  rintro e w8 ⟨k0, F_k0, he_k, p_k0, nd_k0, hbw8⟩
  have zw8 : w7.heap.size ≤ w8.heap.size := hbw8.size
  have bw8 := bw7.trans (hbw8.mono bw7.size)
  clear bw7
  have sw8 := sw7.trans (hbw8.mono sw7.size)
  clear sw7
  have o_g0_w8 := o_g0_w7.later hbw8
  clear o_g0_w7
  have i_W0_w8 : Hid (w8.heap[w1.heap.size]? = some (.cells #[.int .i64 xO0_0, .int .i64 xO0_1, .slice aW0_2 nW0_2 cW0_2, .int .i64 xO0_3, .int .i64 xO0_4, .bool xO0_5, .int .i64 xO0_6, .slice aW0_7 nW0_7 cW0_7, .slice aW0_8 nW0_8 cW0_8, .int .i64 xO0_9] 27 (0, 0))) := (hbw8.block _ (by omega)).trans i_W0_w7.out
  clear i_W0_w7
  have i_g0_w8 : Hid (w8.heap[w3.heap.size]? = some (.cells #[.int .i64 xO0_0, .int .i64 xO0_1, .slice ag0_2 ng0_2 cg0_2, .int .i64 xO0_3, .int .i64 xO0_4, .bool xO0_5, .int .i64 xO0_6, .slice ag0_7 ng0_7 cg0_7, .slice ag0_8 ng0_8 cg0_8, .int .i64 xO0_9] 27 (0, 0))) := (hbw8.block _ (by omega)).trans i_g0_w7.out
  clear i_g0_w7
  clear hbw8
  have lt_k0 : Hid (∀ g ∈ F_k0, w7.heap.size ≤ g ∧ g < w8.heap.size) := p_k0.lt
  obtain ⟨ak0_2, nk0_2, ck0_2, ak0_7, nk0_7, ck0_7, ak0_8, nk0_8, ck0_8, hq_k0, _⟩ := open_Vt p_k0.reads
  rw [← HEO0.out.1, ← HEO0.out.2.1, ← HEO0.out.2.2.1, ← HEO0.out.2.2.2.1, ← HEO0.out.2.2.2.2.1, ← HEO0.out.2.2.2.2.2.1, ← HEO0.out.2.2.2.2.2.2.1] at hq_k0
  subst hq_k0
  subst he_k
  have zl_W0 : w1.heap.size < w8.heap.size := by omega
  have y_W0_0 : w8.cell? ⟨w1.heap.size, 0, none⟩ = some (.int .i64 xO0_0) := box_cell i_W0_w8.out rfl
  have y_W0_1 : w8.cell? ⟨w1.heap.size, 1, none⟩ = some (.int .i64 xO0_1) := box_cell i_W0_w8.out rfl
  have y_W0_2 : w8.cell? ⟨w1.heap.size, 2, none⟩ = some (.slice aW0_2 nW0_2 cW0_2) := box_cell i_W0_w8.out rfl
  have y_W0_3 : w8.cell? ⟨w1.heap.size, 3, none⟩ = some (.int .i64 xO0_3) := box_cell i_W0_w8.out rfl
  have y_W0_4 : w8.cell? ⟨w1.heap.size, 4, none⟩ = some (.int .i64 xO0_4) := box_cell i_W0_w8.out rfl
  have y_W0_5 : w8.cell? ⟨w1.heap.size, 5, none⟩ = some (.bool xO0_5) := box_cell i_W0_w8.out rfl
  have y_W0_6 : w8.cell? ⟨w1.heap.size, 6, none⟩ = some (.int .i64 xO0_6) := box_cell i_W0_w8.out rfl
  have y_W0_7 : w8.cell? ⟨w1.heap.size, 7, none⟩ = some (.slice aW0_7 nW0_7 cW0_7) := box_cell i_W0_w8.out rfl
  have y_W0_8 : w8.cell? ⟨w1.heap.size, 8, none⟩ = some (.slice aW0_8 nW0_8 cW0_8) := box_cell i_W0_w8.out rfl
  have y_W0_9 : w8.cell? ⟨w1.heap.size, 9, none⟩ = some (.int .i64 xO0_9) := box_cell i_W0_w8.out rfl
  go_wp2_with fail
  clear zl_W0 y_W0_0 y_W0_1 y_W0_2 y_W0_3 y_W0_4 y_W0_5 y_W0_6 y_W0_7 y_W0_8 y_W0_9
  obtain ⟨w9, hw9⟩ : ∃ W, W = w8.alloc (.cells #[.int .i64 xO0_0, .int .i64 xO0_1, .slice ak0_2 nk0_2 ck0_2, .int .i64 xO0_3, .int .i64 xO0_4, .bool xO0_5, .int .i64 xO0_6, .slice ak0_7 nk0_7 ck0_7, .slice ak0_8 nk0_8 ck0_8, .int .i64 xO0_9] 27) := ⟨_, rfl⟩
  have hbw9 : Below w8.heap.size w8 w9 := by rw [hw9]; exact (Below.refl _ _).alloc (Nat.le_refl _) _
  have i_k0_w9 : Hid (w9.heap[w8.heap.size]? = some (.cells #[.int .i64 xO0_0, .int .i64 xO0_1, .slice ak0_2 nk0_2 ck0_2, .int .i64 xO0_3, .int .i64 xO0_4, .bool xO0_5, .int .i64 xO0_6, .slice ak0_7 nk0_7 ck0_7, .slice ak0_8 nk0_8 ck0_8, .int .i64 xO0_9] 27 (0, 0))) := by show _ = _; rw [hw9]; exact heap_alloc_new w8 _
  have zzw9 : w9.heap.size = w8.heap.size + 1 := by rw [hw9]; simp
  rw [← hw9]
  clear hw9
  have zw9 : w8.heap.size ≤ w9.heap.size := hbw9.size
  have bw9 := bw8.trans (hbw9.mono bw8.size)
  clear bw8
  have sw9 := sw8.trans (hbw9.mono sw8.size)
  clear sw8
  have o_g0_w9 := o_g0_w8.later hbw9
  clear o_g0_w8
  have o_k0_w9 := p_k0.later hbw9
  clear p_k0
  have i_W0_w9 : Hid (w9.heap[w1.heap.size]? = some (.cells #[.int .i64 xO0_0, .int .i64 xO0_1, .slice aW0_2 nW0_2 cW0_2, .int .i64 xO0_3, .int .i64 xO0_4, .bool xO0_5, .int .i64 xO0_6, .slice aW0_7 nW0_7 cW0_7, .slice aW0_8 nW0_8 cW0_8, .int .i64 xO0_9] 27 (0, 0))) := (hbw9.block _ (by omega)).trans i_W0_w8.out
  clear i_W0_w8
  have i_g0_w9 : Hid (w9.heap[w3.heap.size]? = some (.cells #[.int .i64 xO0_0, .int .i64 xO0_1, .slice ag0_2 ng0_2 cg0_2, .int .i64 xO0_3, .int .i64 xO0_4, .bool xO0_5, .int .i64 xO0_6, .slice ag0_7 ng0_7 cg0_7, .slice ag0_8 ng0_8 cg0_8, .int .i64 xO0_9] 27 (0, 0))) := (hbw9.block _ (by omega)).trans i_g0_w8.out
  clear i_g0_w8
  clear hbw9
  refine (eqVt_any _ _ D0 _ o_k0_w9.reads (RW0.out.later sw9) HD0.out.1).mono ?_
  rintro e w10 ⟨rfl, hbw10⟩
  have zw10 : w9.heap.size ≤ w10.heap.size := hbw10.size
  have bw10 := bw9.trans (hbw10.mono bw9.size)
  clear bw9
  have sw10 := sw9.trans (hbw10.mono sw9.size)
  clear sw9
  have o_g0_w10 := o_g0_w9.later hbw10
  clear o_g0_w9
  have o_k0_w10 := o_k0_w9.later hbw10
  clear o_k0_w9
  have i_W0_w10 : Hid (w10.heap[w1.heap.size]? = some (.cells #[.int .i64 xO0_0, .int .i64 xO0_1, .slice aW0_2 nW0_2 cW0_2, .int .i64 xO0_3, .int .i64 xO0_4, .bool xO0_5, .int .i64 xO0_6, .slice aW0_7 nW0_7 cW0_7, .slice aW0_8 nW0_8 cW0_8, .int .i64 xO0_9] 27 (0, 0))) := (hbw10.block _ (by omega)).trans i_W0_w9.out
  clear i_W0_w9
  have i_g0_w10 : Hid (w10.heap[w3.heap.size]? = some (.cells #[.int .i64 xO0_0, .int .i64 xO0_1, .slice ag0_2 ng0_2 cg0_2, .int .i64 xO0_3, .int .i64 xO0_4, .bool xO0_5, .int .i64 xO0_6, .slice ag0_7 ng0_7 cg0_7, .slice ag0_8 ng0_8 cg0_8, .int .i64 xO0_9] 27 (0, 0))) := (hbw10.block _ (by omega)).trans i_g0_w9.out
  clear i_g0_w9
  have i_k0_w10 : Hid (w10.heap[w8.heap.size]? = some (.cells #[.int .i64 xO0_0, .int .i64 xO0_1, .slice ak0_2 nk0_2 ck0_2, .int .i64 xO0_3, .int .i64 xO0_4, .bool xO0_5, .int .i64 xO0_6, .slice ak0_7 nk0_7 ck0_7, .slice ak0_8 nk0_8 ck0_8, .int .i64 xO0_9] 27 (0, 0))) := (hbw10.block _ (by omega)).trans i_k0_w9.out
  clear i_k0_w9
  clear hbw10
  have zl_g0 : w3.heap.size < w10.heap.size := by omega
  have y_g0_0 : w10.cell? ⟨w3.heap.size, 0, none⟩ = some (.int .i64 xO0_0) := box_cell i_g0_w10.out rfl
  have y_g0_1 : w10.cell? ⟨w3.heap.size, 1, none⟩ = some (.int .i64 xO0_1) := box_cell i_g0_w10.out rfl
  have y_g0_2 : w10.cell? ⟨w3.heap.size, 2, none⟩ = some (.slice ag0_2 ng0_2 cg0_2) := box_cell i_g0_w10.out rfl
  have y_g0_3 : w10.cell? ⟨w3.heap.size, 3, none⟩ = some (.int .i64 xO0_3) := box_cell i_g0_w10.out rfl
  have y_g0_4 : w10.cell? ⟨w3.heap.size, 4, none⟩ = some (.int .i64 xO0_4) := box_cell i_g0_w10.out rfl
  have y_g0_5 : w10.cell? ⟨w3.heap.size, 5, none⟩ = some (.bool xO0_5) := box_cell i_g0_w10.out rfl
  have y_g0_6 : w10.cell? ⟨w3.heap.size, 6, none⟩ = some (.int .i64 xO0_6) := box_cell i_g0_w10.out rfl
  have y_g0_7 : w10.cell? ⟨w3.heap.size, 7, none⟩ = some (.slice ag0_7 ng0_7 cg0_7) := box_cell i_g0_w10.out rfl
  have y_g0_8 : w10.cell? ⟨w3.heap.size, 8, none⟩ = some (.slice ag0_8 ng0_8 cg0_8) := box_cell i_g0_w10.out rfl
  have y_g0_9 : w10.cell? ⟨w3.heap.size, 9, none⟩ = some (.int .i64 xO0_9) := box_cell i_g0_w10.out rfl
  go_wp2_with fail
  clear zl_g0 y_g0_0 y_g0_1 y_g0_2 y_g0_3 y_g0_4 y_g0_5 y_g0_6 y_g0_7 y_g0_8 y_g0_9
  refine (heldVt_own _ _ (1) D0 F_g0 _ o_g0_w10 nd_g0 (by omega) (by omega)).mono ?_
  rintro e w11 ⟨rfl, hbw11⟩
  have zw11 : w10.heap.size ≤ w11.heap.size := hbw11.size
  have bw11 := bw10.trans (hbw11.mono bw10.size)
  clear bw10
  have sw11 := sw10.trans (hbw11.mono sw10.size)
  clear sw10
  have o_g0_w11 := o_g0_w10.later hbw11
  clear o_g0_w10
  have o_k0_w11 := o_k0_w10.later hbw11
  clear o_k0_w10
  have i_W0_w11 : Hid (w11.heap[w1.heap.size]? = some (.cells #[.int .i64 xO0_0, .int .i64 xO0_1, .slice aW0_2 nW0_2 cW0_2, .int .i64 xO0_3, .int .i64 xO0_4, .bool xO0_5, .int .i64 xO0_6, .slice aW0_7 nW0_7 cW0_7, .slice aW0_8 nW0_8 cW0_8, .int .i64 xO0_9] 27 (0, 0))) := (hbw11.block _ (by omega)).trans i_W0_w10.out
  clear i_W0_w10
  have i_g0_w11 : Hid (w11.heap[w3.heap.size]? = some (.cells #[.int .i64 xO0_0, .int .i64 xO0_1, .slice ag0_2 ng0_2 cg0_2, .int .i64 xO0_3, .int .i64 xO0_4, .bool xO0_5, .int .i64 xO0_6, .slice ag0_7 ng0_7 cg0_7, .slice ag0_8 ng0_8 cg0_8, .int .i64 xO0_9] 27 (0, 0))) := (hbw11.block _ (by omega)).trans i_g0_w10.out
  clear i_g0_w10
  have i_k0_w11 : Hid (w11.heap[w8.heap.size]? = some (.cells #[.int .i64 xO0_0, .int .i64 xO0_1, .slice ak0_2 nk0_2 ck0_2, .int .i64 xO0_3, .int .i64 xO0_4, .bool xO0_5, .int .i64 xO0_6, .slice ak0_7 nk0_7 ck0_7, .slice ak0_8 nk0_8 ck0_8, .int .i64 xO0_9] 27 (0, 0))) := (hbw11.block _ (by omega)).trans i_k0_w10.out
  clear i_k0_w10
  clear hbw11
  go_wp2
  go_ret
  exact ⟨rfl, bw11⟩

end Go.Proofs.Ytojalheohpkdoaa
