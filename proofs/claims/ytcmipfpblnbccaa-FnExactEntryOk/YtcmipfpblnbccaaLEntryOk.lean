/-
  The walk of the law FnExactEntryOk over the contracts of its two functions. By program (lawgen3.py).
-/
import Derived.Test.YtcmipfpblnbccaaTyEntry
import Derived.Test.YtcmipfpblnbccaaVB
namespace Go.Proofs.Ytcmipfpblnbccaa
open Go.RowKit
set_option linter.unusedVariables false

set_option maxRecDepth 100000 in
set_option maxHeartbeats 8000000 in
theorem entryOk_over (cs0 : List Value) (d0 : shEntry.D) (V0 : Bool) (w : World) (hr0 : Reads shEntry w cs0 d0)
    (hcd0 : shEntry.sz d0 ≤ 1048576 → shEntry.cntV d0 ≤ 1000000000)
    (hS : ∀ w' c0 G0, Own shEntry w' 0 c0 d0 G0 → shEntry.sz d0 ≤ 1048576 → Calls Try.prog 9 #[.agg c0.toArray] w' fun e w'' => e = .returned (.bool V0) ∧ Below w'.heap.size w' w'')
    (hI : ∀ w' c0 G0, Own shEntry w' 0 c0 d0 G0 → shEntry.sz d0 ≤ 1048576 → Calls Try.prog 11 #[.agg c0.toArray] w' fun e w'' => e = .returned (.bool V0) ∧ Below w'.heap.size w' w'') :
    Calls Try.prog 3 #[.agg cs0.toArray] w fun e w' => e = .returned (.bool true) ∧ Below w.heap.size w w' := by
  have qsz0 : Hid (∀ w' left, Below w.heap.size w w' → 0 ≤ left → left ≤ 1048576 → Calls Try.prog 8 #[.agg cs0.toArray, .int .i64 left] w' fun e w'' => e = .returned (.int .i64 (szAns (shEntry.sz d0) left)) ∧ Below w'.heap.size w' w'') := fun w' left h' h1 h2 => szEntry_any cs0 d0 left w' (hr0.later h') h1 h2
  have qto0 : Hid (∀ w', Below w.heap.size w w' → shEntry.sz d0 ≤ 1048576 → Calls Try.prog 10 #[.agg cs0.toArray] w' fun e w'' => ∃ cs' F, e = .returned (.agg cs'.toArray) ∧ Own shEntry w'' w'.heap.size cs' d0 F ∧ F.Nodup ∧ Below w'.heap.size w' w'') := fun w' h' hs => toEntry_any cs0 d0 w' (hr0.later h') hs
  have qeq0 : Hid (∀ w' c1 c2, Reads shEntry w' c1 d0 → Reads shEntry w' c2 d0 → shEntry.sz d0 ≤ 1048576 → Calls Try.prog 31 #[.agg c1.toArray, .agg c2.toArray] w' fun e w'' => e = .returned (.bool true) ∧ Below w'.heap.size w' w'') := fun w' c1 c2 h1 h2 hs => eqEntry_any c1 c2 d0 w' h1 h2 hs
  have qS : Hid (∀ w' c0 G0, Own shEntry w' 0 c0 d0 G0 → shEntry.sz d0 ≤ 1048576 → Calls Try.prog 9 #[.agg c0.toArray] w' fun e w'' => e = .returned (.bool V0) ∧ Below w'.heap.size w' w'') := hS
  have qI : Hid (∀ w' c0 G0, Own shEntry w' 0 c0 d0 G0 → shEntry.sz d0 ≤ 1048576 → Calls Try.prog 11 #[.agg c0.toArray] w' fun e w'' => e = .returned (.bool V0) ∧ Below w'.heap.size w' w'') := hI
  have qcd0 : Hid (shEntry.sz d0 ≤ 1048576 → shEntry.cntV d0 ≤ 1000000000) := hcd0
  have hne0 : (V0 != V0) = false := by cases V0 <;> rfl
  obtain ⟨hcs0, _⟩ := open_Entry hr0
  obtain ⟨xL0_0, eL0_0⟩ : ∃ x : Int, x = d0.1 := ⟨_, rfl⟩
  obtain ⟨xL0_1, eL0_1⟩ : ∃ x : ByteArray, x = d0.2.1 := ⟨_, rfl⟩
  have HEL0 : Hid (xL0_0 = d0.1 ∧ xL0_1 = d0.2.1 ∧ True ∧ True) := ⟨eL0_0, eL0_1, trivial, trivial⟩
  rw [← eL0_0, ← eL0_1] at hcs0
  subst hcs0
  obtain ⟨K0, hK0⟩ : ∃ K, K = shEntry.sz d0 := ⟨_, rfl⟩
  rw [← hK0] at qsz0
  clear hS hI hr0 hcd0 eL0_0 eL0_1
  go_enter Try.func3, Try.ntmps3
  go_wp2_with fail
  obtain ⟨w1, hw1⟩ : ∃ W, W = w.alloc (.cells #[.int .i64 xL0_0, .string xL0_1] 23) := ⟨_, rfl⟩
  have hbw1 : Below w.heap.size w w1 := by rw [hw1]; exact (Below.refl _ _).alloc (Nat.le_refl _) _
  have i_a0_w1 : Hid (w1.heap[w.heap.size]? = some (.cells #[.int .i64 xL0_0, .string xL0_1] 23 (0, 0))) := by show _ = _; rw [hw1]; exact heap_alloc_new w _
  have zzw1 : w1.heap.size = w.heap.size + 1 := by rw [hw1]; simp
  rw [← hw1]
  clear hw1
  have zw1 : w.heap.size ≤ w1.heap.size := hbw1.size
  have bw1 := (Below.refl w.heap.size w).trans (hbw1.mono (Below.refl w.heap.size w).size)
  clear hbw1
  refine (qsz0.out _ (1048576) bw1 (by omega) (by omega)).mono ?_
  rintro e w2 ⟨rfl, hbw2⟩
  have zw2 : w1.heap.size ≤ w2.heap.size := hbw2.size
  have bw2 := bw1.trans (hbw2.mono bw1.size)
  clear bw1
  have i_a0_w2 : Hid (w2.heap[w.heap.size]? = some (.cells #[.int .i64 xL0_0, .string xL0_1] 23 (0, 0))) := (hbw2.block _ (by omega)).trans i_a0_w1.out
  clear i_a0_w1
  clear hbw2
  by_cases hk0 : ((K0 : Nat) : Int) ≤ 1048576
  case neg =>
    rw [szAns_no hk0]
    go_wp2
    go_ret
    exact ⟨rfl, bw2⟩
  rw [szAns_yes hk0]
  have hl0 : ¬ (1048576 - ((K0 : Nat) : Int) < 0) := by omega
  have HZ0 : Hid (shEntry.sz d0 ≤ 1048576) := by show shEntry.sz d0 ≤ 1048576; omega
  have hcc0 := qcd0.out HZ0.out
  have zl_a0 : w.heap.size < w2.heap.size := by omega
  have y_a0_0 : w2.cell? ⟨w.heap.size, 0, none⟩ = some (.int .i64 xL0_0) := box_cell i_a0_w2.out rfl
  have y_a0_1 : w2.cell? ⟨w.heap.size, 1, none⟩ = some (.string xL0_1) := box_cell i_a0_w2.out rfl
  go_wp2_with fail
  clear zl_a0 y_a0_0 y_a0_1
  refine (qto0.out _ bw2 HZ0.out).mono ?_
  rintro e w3 ⟨cs_y0, F_y0, he_y0, p_y0, nd_y0, hbw3⟩
  have zw3 : w2.heap.size ≤ w3.heap.size := hbw3.size
  have bw3 := bw2.trans (hbw3.mono bw2.size)
  clear bw2
  have i_a0_w3 : Hid (w3.heap[w.heap.size]? = some (.cells #[.int .i64 xL0_0, .string xL0_1] 23 (0, 0))) := (hbw3.block _ (by omega)).trans i_a0_w2.out
  clear i_a0_w2
  clear hbw3
  have lt_y0 : Hid (∀ g ∈ F_y0, w2.heap.size ≤ g ∧ g < w3.heap.size) := p_y0.lt
  obtain ⟨hq_y0, _⟩ := open_Entry p_y0.reads
  rw [← HEL0.out.1, ← HEL0.out.2.1] at hq_y0
  subst hq_y0
  subst he_y0
  go_wp2_with fail
  refine (qS.out _ _ _ (p_y0.base (Nat.zero_le _)) HZ0.out).mono ?_
  rintro e w4 ⟨rfl, hbw4⟩
  have zw4 : w3.heap.size ≤ w4.heap.size := hbw4.size
  have bw4 := bw3.trans (hbw4.mono bw3.size)
  clear bw3
  have o_y0_w4 := p_y0.later hbw4
  clear p_y0
  have i_a0_w4 : Hid (w4.heap[w.heap.size]? = some (.cells #[.int .i64 xL0_0, .string xL0_1] 23 (0, 0))) := (hbw4.block _ (by omega)).trans i_a0_w3.out
  clear i_a0_w3
  clear hbw4
  have sw4 : Below w4.heap.size w4 w4 := Below.refl _ _
  clear o_y0_w4 nd_y0 lt_y0
  have zl_a0 : w.heap.size < w4.heap.size := by omega
  have y_a0_0 : w4.cell? ⟨w.heap.size, 0, none⟩ = some (.int .i64 xL0_0) := box_cell i_a0_w4.out rfl
  have y_a0_1 : w4.cell? ⟨w.heap.size, 1, none⟩ = some (.string xL0_1) := box_cell i_a0_w4.out rfl
  go_wp2_with fail
  clear zl_a0 y_a0_0 y_a0_1
  refine (qto0.out _ bw4 HZ0.out).mono ?_
  rintro e w5 ⟨cs_x0, F_x0, he_x0, p_x0, nd_x0, hbw5⟩
  have zw5 : w4.heap.size ≤ w5.heap.size := hbw5.size
  have bw5 := bw4.trans (hbw5.mono bw4.size)
  clear bw4
  have sw5 := sw4.trans (hbw5.mono sw4.size)
  clear sw4
  have i_a0_w5 : Hid (w5.heap[w.heap.size]? = some (.cells #[.int .i64 xL0_0, .string xL0_1] 23 (0, 0))) := (hbw5.block _ (by omega)).trans i_a0_w4.out
  clear i_a0_w4
  clear hbw5
  have lt_x0 : Hid (∀ g ∈ F_x0, w4.heap.size ≤ g ∧ g < w5.heap.size) := p_x0.lt
  obtain ⟨hq_x0, _⟩ := open_Entry p_x0.reads
  rw [← HEL0.out.1, ← HEL0.out.2.1] at hq_x0
  subst hq_x0
  subst he_x0
  go_wp2_with fail
  refine (qI.out _ _ _ (p_x0.base (Nat.zero_le _)) HZ0.out).mono ?_
  rintro e w6 ⟨rfl, hbw6⟩
  have zw6 : w5.heap.size ≤ w6.heap.size := hbw6.size
  have bw6 := bw5.trans (hbw6.mono bw5.size)
  clear bw5
  have sw6 := sw5.trans (hbw6.mono sw5.size)
  clear sw5
  have o_x0_w6 := p_x0.later hbw6
  clear p_x0
  have i_a0_w6 : Hid (w6.heap[w.heap.size]? = some (.cells #[.int .i64 xL0_0, .string xL0_1] 23 (0, 0))) := (hbw6.block _ (by omega)).trans i_a0_w5.out
  clear i_a0_w5
  clear hbw6
  clear o_x0_w6 nd_x0 lt_x0
  go_wp2
  go_ret
  exact ⟨rfl, bw6⟩

end Go.Proofs.Ytcmipfpblnbccaa
