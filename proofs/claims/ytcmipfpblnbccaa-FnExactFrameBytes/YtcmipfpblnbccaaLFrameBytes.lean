/-
  The walk of the law FnExactFrameBytes over the contracts of its two functions. By program (lawgen3.py).
-/
import Derived.Test.YtcmipfpblnbccaaTyEntry
import Derived.Test.YtcmipfpblnbccaaVB
namespace Go.Proofs.Ytcmipfpblnbccaa
open Go.RowKit
set_option linter.unusedVariables false

set_option maxRecDepth 100000 in
set_option maxHeartbeats 8000000 in
theorem frameBytes_over (cs0 : List Value) (d0 : shEntry.D) (D0 : List Int) (V1 : Bool) (w : World) (hr0 : Reads shEntry w cs0 d0) (hD0 : D0.length ≤ 1048576) (hC0 : Sh.cnt (.sl .u8) D0 ≤ 1000000000)
    (hcd0 : shEntry.sz d0 ≤ 1048576 → shEntry.cntV d0 ≤ 1000000000)
    (hS : ∀ w' c0 G0, Own shEntry w' 0 c0 d0 G0 → shEntry.sz d0 ≤ 1048576 → Calls Try.prog 17 #[.agg c0.toArray] w' fun e w'' => ∃ o0, e = .returned (.tuple #[o0, .bool V1]) ∧ Reads (.sl .u8) w'' [o0] D0 ∧ Below w'.heap.size w' w'')
    (hI : ∀ w' c0 G0, Own shEntry w' 0 c0 d0 G0 → shEntry.sz d0 ≤ 1048576 → Calls Try.prog 18 #[.agg c0.toArray] w' fun e w'' => ∃ o0 F0, e = .returned (.tuple #[o0, .bool V1]) ∧ Own (.sl .u8) w'' w'.heap.size [o0] D0 F0 ∧ F0.Nodup ∧ Below w'.heap.size w' w'') :
    Calls Try.prog 5 #[.agg cs0.toArray] w fun e w' => e = .returned (.bool true) ∧ Below w.heap.size w w' := by
  have qsz0 : Hid (∀ w' left, Below w.heap.size w w' → 0 ≤ left → left ≤ 1048576 → Calls Try.prog 8 #[.agg cs0.toArray, .int .i64 left] w' fun e w'' => e = .returned (.int .i64 (szAns (shEntry.sz d0) left)) ∧ Below w'.heap.size w' w'') := fun w' left h' h1 h2 => szEntry_any cs0 d0 left w' (hr0.later h') h1 h2
  have qto0 : Hid (∀ w', Below w.heap.size w w' → shEntry.sz d0 ≤ 1048576 → Calls Try.prog 10 #[.agg cs0.toArray] w' fun e w'' => ∃ cs' F, e = .returned (.agg cs'.toArray) ∧ Own shEntry w'' w'.heap.size cs' d0 F ∧ F.Nodup ∧ Below w'.heap.size w' w'') := fun w' h' hs => toEntry_any cs0 d0 w' (hr0.later h') hs
  have qeq0 : Hid (∀ w' c1 c2, Reads shEntry w' c1 d0 → Reads shEntry w' c2 d0 → shEntry.sz d0 ≤ 1048576 → Calls Try.prog 31 #[.agg c1.toArray, .agg c2.toArray] w' fun e w'' => e = .returned (.bool true) ∧ Below w'.heap.size w' w'') := fun w' c1 c2 h1 h2 hs => eqEntry_any c1 c2 d0 w' h1 h2 hs
  have qS : Hid (∀ w' c0 G0, Own shEntry w' 0 c0 d0 G0 → shEntry.sz d0 ≤ 1048576 → Calls Try.prog 17 #[.agg c0.toArray] w' fun e w'' => ∃ o0, e = .returned (.tuple #[o0, .bool V1]) ∧ Reads (.sl .u8) w'' [o0] D0 ∧ Below w'.heap.size w' w'') := hS
  have qI : Hid (∀ w' c0 G0, Own shEntry w' 0 c0 d0 G0 → shEntry.sz d0 ≤ 1048576 → Calls Try.prog 18 #[.agg c0.toArray] w' fun e w'' => ∃ o0 F0, e = .returned (.tuple #[o0, .bool V1]) ∧ Own (.sl .u8) w'' w'.heap.size [o0] D0 F0 ∧ F0.Nodup ∧ Below w'.heap.size w' w'') := hI
  have qcd0 : Hid (shEntry.sz d0 ≤ 1048576 → shEntry.cntV d0 ≤ 1000000000) := hcd0
  have HD0 : Hid (_ ∧ _) := ⟨hD0, hC0⟩
  have hne1 : (V1 != V1) = false := by cases V1 <;> rfl
  obtain ⟨hcs0, _⟩ := open_Entry hr0
  obtain ⟨xL0_0, eL0_0⟩ : ∃ x : Int, x = d0.1 := ⟨_, rfl⟩
  obtain ⟨xL0_1, eL0_1⟩ : ∃ x : ByteArray, x = d0.2.1 := ⟨_, rfl⟩
  have HEL0 : Hid (xL0_0 = d0.1 ∧ xL0_1 = d0.2.1 ∧ True ∧ True) := ⟨eL0_0, eL0_1, trivial, trivial⟩
  rw [← eL0_0, ← eL0_1] at hcs0
  subst hcs0
  obtain ⟨K0, hK0⟩ : ∃ K, K = shEntry.sz d0 := ⟨_, rfl⟩
  rw [← hK0] at qsz0
  clear hS hI hr0 hcd0 hD0 hC0 eL0_0 eL0_1
  go_enter Try.func5, Try.ntmps5
  go_wp2_with fail
  obtain ⟨w1, hw1⟩ : ∃ W, W = w.alloc (.cells #[.int .i64 xL0_0, .string xL0_1] 23) := ⟨_, rfl⟩
  have hbw1 : Below w.heap.size w w1 := by rw [hw1]; exact (Below.refl _ _).alloc (Nat.le_refl _) _
  have i_a0_w1 : Hid (w1.heap[w.heap.size]? = some (.cells #[.int .i64 xL0_0, .string xL0_1] 23 (0, 0))) := by show _ = _; rw [hw1]; exact heap_alloc_new w _
  have zzw1 : w1.heap.size = w.heap.size + 1 := by rw [hw1]; simp
  rw [← hw1]
  clear hw1
  have zw1 : w.heap.size ≤ w1.heap.size := hbw1.size
  have bw1 := (Below.refl w.heap.size w).trans (hbw1.mono (Below.refl w.heap.size w).size)
  clear hbw1
  refine (qsz0.out _ (1048576) bw1 (by omega) (by omega)).mono ?_
  rintro e w2 ⟨rfl, hbw2⟩
  have zw2 : w1.heap.size ≤ w2.heap.size := hbw2.size
  have bw2 := bw1.trans (hbw2.mono bw1.size)
  clear bw1
  have i_a0_w2 : Hid (w2.heap[w.heap.size]? = some (.cells #[.int .i64 xL0_0, .string xL0_1] 23 (0, 0))) := (hbw2.block _ (by omega)).trans i_a0_w1.out
  clear i_a0_w1
  clear hbw2
  by_cases hk0 : ((K0 : Nat) : Int) ≤ 1048576
  case neg =>
    rw [szAns_no hk0]
    go_wp2
    go_ret
    exact ⟨rfl, bw2⟩
  rw [szAns_yes hk0]
  have hl0 : ¬ (1048576 - ((K0 : Nat) : Int) < 0) := by omega
  have HZ0 : Hid (shEntry.sz d0 ≤ 1048576) := by show shEntry.sz d0 ≤ 1048576; omega
  have hcc0 := qcd0.out HZ0.out
  have zl_a0 : w.heap.size < w2.heap.size := by omega
  have y_a0_0 : w2.cell? ⟨w.heap.size, 0, none⟩ = some (.int .i64 xL0_0) := box_cell i_a0_w2.out rfl
  have y_a0_1 : w2.cell? ⟨w.heap.size, 1, none⟩ = some (.string xL0_1) := box_cell i_a0_w2.out rfl
  go_wp2_with fail
  clear zl_a0 y_a0_0 y_a0_1
  refine (qto0.out _ bw2 HZ0.out).mono ?_
  rintro e w3 ⟨cs_y0, F_y0, he_y0, p_y0, nd_y0, hbw3⟩
  have zw3 : w2.heap.size ≤ w3.heap.size := hbw3.size
  have bw3 := bw2.trans (hbw3.mono bw2.size)
  clear bw2
  have i_a0_w3 : Hid (w3.heap[w.heap.size]? = some (.cells #[.int .i64 xL0_0, .string xL0_1] 23 (0, 0))) := (hbw3.block _ (by omega)).trans i_a0_w2.out
  clear i_a0_w2
  clear hbw3
  have lt_y0 : Hid (∀ g ∈ F_y0, w2.heap.size ≤ g ∧ g < w3.heap.size) := p_y0.lt
  obtain ⟨hq_y0, _⟩ := open_Entry p_y0.reads
  rw [← HEL0.out.1, ← HEL0.out.2.1] at hq_y0
  subst hq_y0
  subst he_y0
  go_wp2_with fail
  refine (qS.out _ _ _ (p_y0.base (Nat.zero_le _)) HZ0.out).mono ?_
  rintro e w4 ⟨W0, rfl, p_W0, hbw4⟩
  have RW0 : Hid (Reads (.sl .u8) w4 [W0] D0) := p_W0
  have zw4 : w3.heap.size ≤ w4.heap.size := hbw4.size
  have bw4 := bw3.trans (hbw4.mono bw3.size)
  clear bw3
  have o_y0_w4 := p_y0.later hbw4
  clear p_y0
  have i_a0_w4 : Hid (w4.heap[w.heap.size]? = some (.cells #[.int .i64 xL0_0, .string xL0_1] 23 (0, 0))) := (hbw4.block _ (by omega)).trans i_a0_w3.out
  clear i_a0_w3
  clear hbw4
  have sw4 : Below w4.heap.size w4 w4 := Below.refl _ _
  clear p_W0
  clear o_y0_w4 nd_y0 lt_y0
  have zl_a0 : w.heap.size < w4.heap.size := by omega
  have y_a0_0 : w4.cell? ⟨w.heap.size, 0, none⟩ = some (.int .i64 xL0_0) := box_cell i_a0_w4.out rfl
  have y_a0_1 : w4.cell? ⟨w.heap.size, 1, none⟩ = some (.string xL0_1) := box_cell i_a0_w4.out rfl
  go_wp2_with fail
  clear zl_a0 y_a0_0 y_a0_1
  refine (qto0.out _ bw4 HZ0.out).mono ?_
  rintro e w5 ⟨cs_x0, F_x0, he_x0, p_x0, nd_x0, hbw5⟩
  have zw5 : w4.heap.size ≤ w5.heap.size := hbw5.size
  have bw5 := bw4.trans (hbw5.mono bw4.size)
  clear bw4
  have sw5 := sw4.trans (hbw5.mono sw4.size)
  clear sw4
  have i_a0_w5 : Hid (w5.heap[w.heap.size]? = some (.cells #[.int .i64 xL0_0, .string xL0_1] 23 (0, 0))) := (hbw5.block _ (by omega)).trans i_a0_w4.out
  clear i_a0_w4
  clear hbw5
  have lt_x0 : Hid (∀ g ∈ F_x0, w4.heap.size ≤ g ∧ g < w5.heap.size) := p_x0.lt
  obtain ⟨hq_x0, _⟩ := open_Entry p_x0.reads
  rw [← HEL0.out.1, ← HEL0.out.2.1] at hq_x0
  subst hq_x0
  subst he_x0
  go_wp2_with fail
  refine (qI.out _ _ _ (p_x0.base (Nat.zero_le _)) HZ0.out).mono ?_
  rintro e w6 ⟨g0, F_g0, rfl, p_g0, nd_g0, hbw6⟩
  have zw6 : w5.heap.size ≤ w6.heap.size := hbw6.size
  have bw6 := bw5.trans (hbw6.mono bw5.size)
  clear bw5
  have sw6 := sw5.trans (hbw6.mono sw5.size)
  clear sw5
  have o_x0_w6 := p_x0.later hbw6
  clear p_x0
  have i_a0_w6 : Hid (w6.heap[w.heap.size]? = some (.cells #[.int .i64 xL0_0, .string xL0_1] 23 (0, 0))) := (hbw6.block _ (by omega)).trans i_a0_w5.out
  clear i_a0_w5
  clear hbw6
  have lt_g0 : Hid (∀ g ∈ F_g0, w5.heap.size ≤ g ∧ g < w6.heap.size) := p_g0.lt
  go_wp2_with fail
  refine (eqByteS_v _ _ D0 _ p_g0.reads (RW0.out.later sw6) (by have := HD0.out.1; omega)).mono ?_
  rintro e w7 ⟨rfl, hbw7⟩
  have zw7 : w6.heap.size ≤ w7.heap.size := hbw7.size
  have bw7 := bw6.trans (hbw7.mono bw6.size)
  clear bw6
  have sw7 := sw6.trans (hbw7.mono sw6.size)
  clear sw6
  have o_x0_w7 := o_x0_w6.later hbw7
  clear o_x0_w6
  have o_g0_w7 := p_g0.later hbw7
  clear p_g0
  have i_a0_w7 : Hid (w7.heap[w.heap.size]? = some (.cells #[.int .i64 xL0_0, .string xL0_1] 23 (0, 0))) := (hbw7.block _ (by omega)).trans i_a0_w6.out
  clear i_a0_w6
  clear hbw7
  clear o_x0_w7 nd_x0 lt_x0
  have hcj0 := HD0.out.2
  go_wp2_with fail
  refine (markByteS_v _ _ _ (1) D0 F_g0 _ (by first | rfl | omega | (simp; done)) o_g0_w7 nd_g0 (by omega) (by omega)).mono ?_
  rintro e w8 ⟨rfl, p2_g0, htw8⟩
  have zw8 : w7.heap.size ≤ w8.heap.size := htw8.size
  have bw8 := htw8.below bw7 bw7.size (fun g hg => by have h9 := (lt_g0.out g hg).1; omega)
  clear bw7
  have sw8 := htw8.below sw7 sw7.size (fun g hg => by have h9 := (lt_g0.out g hg).1; omega)
  clear sw7
  clear o_g0_w7
  have i_a0_w8 : Hid (w8.heap[w.heap.size]? = some (.cells #[.int .i64 xL0_0, .string xL0_1] 23 (0, 0))) := (htw8.block _ (by omega) (fun hm => by have h9 := lt_g0.out _ hm; omega)).trans i_a0_w7.out
  clear i_a0_w7
  clear htw8
  have hqq : ¬ (((1 + Sh.cnt (.sl .u8) D0 : Nat) : Int) < 0) := by omega
  have hmm : ((((1 + Sh.cnt (.sl .u8) D0 : Nat) : Int)) != (((1 + Sh.cnt (.sl .u8) D0 : Nat) : Int))) = false := by simp
  go_wp2_with fail
  refine (heldByteS_v _ _ _ (1) D0 F_g0 _ (by first | rfl | omega | (simp; done)) p2_g0 nd_g0 (by omega) (by omega)).mono ?_
  rintro e w9 ⟨rfl, hbw9⟩
  have zw9 : w8.heap.size ≤ w9.heap.size := hbw9.size
  have bw9 := bw8.trans (hbw9.mono bw8.size)
  clear bw8
  have sw9 := sw8.trans (hbw9.mono sw8.size)
  clear sw8
  have o_g0_w9 := p2_g0.later hbw9
  clear p2_g0
  have i_a0_w9 : Hid (w9.heap[w.heap.size]? = some (.cells #[.int .i64 xL0_0, .string xL0_1] 23 (0, 0))) := (hbw9.block _ (by omega)).trans i_a0_w8.out
  clear i_a0_w8
  clear hbw9
  have zl_a0 : w.heap.size < w9.heap.size := by omega
  have y_a0_0 : w9.cell? ⟨w.heap.size, 0, none⟩ = some (.int .i64 xL0_0) := box_cell i_a0_w9.out rfl
  have y_a0_1 : w9.cell? ⟨w.heap.size, 1, none⟩ = some (.string xL0_1) := box_cell i_a0_w9.out rfl
  go_wp2_with fail
  clear zl_a0 y_a0_0 y_a0_1
  refine (qto0.out _ bw9 HZ0.out).mono ?_
  rintro e w10 ⟨cs_h0, F_h0, he_h0, p_h0, nd_h0, hbw10⟩
  have zw10 : w9.heap.size ≤ w10.heap.size := hbw10.size
  have bw10 := bw9.trans (hbw10.mono bw9.size)
  clear bw9
  have sw10 := sw9.trans (hbw10.mono sw9.size)
  clear sw9
  have o_g0_w10 := o_g0_w9.later hbw10
  clear o_g0_w9
  have i_a0_w10 : Hid (w10.heap[w.heap.size]? = some (.cells #[.int .i64 xL0_0, .string xL0_1] 23 (0, 0))) := (hbw10.block _ (by omega)).trans i_a0_w9.out
  clear i_a0_w9
  clear hbw10
  have lt_h0 : Hid (∀ g ∈ F_h0, w9.heap.size ≤ g ∧ g < w10.heap.size) := p_h0.lt
  obtain ⟨hq_h0, _⟩ := open_Entry p_h0.reads
  rw [← HEL0.out.1, ← HEL0.out.2.1] at hq_h0
  subst hq_h0
  subst he_h0
  go_wp2_with fail
  refine (qI.out _ _ _ (p_h0.base (Nat.zero_le _)) HZ0.out).mono ?_
  rintro e w11 ⟨k0, F_k0, rfl, p_k0, nd_k0, hbw11⟩
  have zw11 : w10.heap.size ≤ w11.heap.size := hbw11.size
  have bw11 := bw10.trans (hbw11.mono bw10.size)
  clear bw10
  have sw11 := sw10.trans (hbw11.mono sw10.size)
  clear sw10
  have o_g0_w11 := o_g0_w10.later hbw11
  clear o_g0_w10
  have o_h0_w11 := p_h0.later hbw11
  clear p_h0
  have i_a0_w11 : Hid (w11.heap[w.heap.size]? = some (.cells #[.int .i64 xL0_0, .string xL0_1] 23 (0, 0))) := (hbw11.block _ (by omega)).trans i_a0_w10.out
  clear i_a0_w10
  clear hbw11
  have lt_k0 : Hid (∀ g ∈ F_k0, w10.heap.size ≤ g ∧ g < w11.heap.size) := p_k0.lt
  go_wp2_with fail
  refine (eqByteS_v _ _ D0 _ p_k0.reads (RW0.out.later sw11) (by have := HD0.out.1; omega)).mono ?_
  rintro e w12 ⟨rfl, hbw12⟩
  have zw12 : w11.heap.size ≤ w12.heap.size := hbw12.size
  have bw12 := bw11.trans (hbw12.mono bw11.size)
  clear bw11
  have sw12 := sw11.trans (hbw12.mono sw11.size)
  clear sw11
  have o_g0_w12 := o_g0_w11.later hbw12
  clear o_g0_w11
  have o_h0_w12 := o_h0_w11.later hbw12
  clear o_h0_w11
  have o_k0_w12 := p_k0.later hbw12
  clear p_k0
  have i_a0_w12 : Hid (w12.heap[w.heap.size]? = some (.cells #[.int .i64 xL0_0, .string xL0_1] 23 (0, 0))) := (hbw12.block _ (by omega)).trans i_a0_w11.out
  clear i_a0_w11
  clear hbw12
  go_wp2_with fail
  refine (heldByteS_v _ _ _ (1) D0 F_g0 _ (by first | rfl | omega | (simp; done)) o_g0_w12 nd_g0 (by omega) (by omega)).mono ?_
  rintro e w13 ⟨rfl, hbw13⟩
  have zw13 : w12.heap.size ≤ w13.heap.size := hbw13.size
  have bw13 := bw12.trans (hbw13.mono bw12.size)
  clear bw12
  have sw13 := sw12.trans (hbw13.mono sw12.size)
  clear sw12
  have o_g0_w13 := o_g0_w12.later hbw13
  clear o_g0_w12
  have o_h0_w13 := o_h0_w12.later hbw13
  clear o_h0_w12
  have o_k0_w13 := o_k0_w12.later hbw13
  clear o_k0_w12
  have i_a0_w13 : Hid (w13.heap[w.heap.size]? = some (.cells #[.int .i64 xL0_0, .string xL0_1] 23 (0, 0))) := (hbw13.block _ (by omega)).trans i_a0_w12.out
  clear i_a0_w12
  clear hbw13
  go_wp2
  go_ret
  exact ⟨rfl, bw13⟩

end Go.Proofs.Ytcmipfpblnbccaa
