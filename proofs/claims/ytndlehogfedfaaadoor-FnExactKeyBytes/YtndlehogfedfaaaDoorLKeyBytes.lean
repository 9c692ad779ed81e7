/-
  The walk of the law FnExactKeyBytes over the contracts of its two functions. By program (kybgen.py).
-/
import Derived.Test.YtndlehogfedfaaaDoorMkB
import Derived.Test.YtndlehogfedfaaaDoorVB
import Derived.Test.YtndlehogfedfaaaDoorOwC
import Derived.Test.YtndlehogfedfaaaDoorKy
import Derived.Test.YtndlehogfedfaaaDoorOwnD
namespace Go.Proofs.YtndlehogfedfaaaDoor
open Go.RowKit
set_option linter.unusedVariables false

set_option maxRecDepth 100000 in
set_option maxHeartbeats 8000000 in
theorem keyBytes_over (n0 : Int) (n1 : Int) (D0 : List Int) (w : World) (hD0 : D0.length ≤ 1048576) (hC0 : Sh.cnt (.sl .u8) D0 ≤ 1000000000)
    (hS : ∀ w', Below w.heap.size w w' → Calls Tryd.prog 12 #[.agg #[.int .i64 n0, .int .i64 n1]] w' fun e w'' => ∃ o0, e = .returned (o0) ∧ Reads (.sl .u8) w'' [o0] D0 ∧ Below w'.heap.size w' w'')
    (hI : ∀ w', Below w.heap.size w w' → Calls Tryd.prog 13 #[.agg #[.int .i64 n0, .int .i64 n1]] w' fun e w'' => ∃ o0 F0, e = .returned (o0) ∧ OwC w'' w'.heap.size o0 D0 F0 ∧ F0.Nodup ∧ Below w'.heap.size w' w'') :
    Calls Tryd.prog 5 #[.agg #[.int .i64 n0, .int .i64 n1]] w fun e w' => e = .returned (.bool true) ∧ Below w.heap.size w w' := by
  have qS : Hid (∀ w', Below w.heap.size w w' → Calls Tryd.prog 12 #[.agg #[.int .i64 n0, .int .i64 n1]] w' fun e w'' => ∃ o0, e = .returned (o0) ∧ Reads (.sl .u8) w'' [o0] D0 ∧ Below w'.heap.size w' w'') := hS
  have qI : Hid (∀ w', Below w.heap.size w w' → Calls Tryd.prog 13 #[.agg #[.int .i64 n0, .int .i64 n1]] w' fun e w'' => ∃ o0 F0, e = .returned (o0) ∧ OwC w'' w'.heap.size o0 D0 F0 ∧ F0.Nodup ∧ Below w'.heap.size w' w'') := hI
  have HD0 : Hid (_ ∧ _) := ⟨hD0, hC0⟩
  have qt : Hid (∀ w', Calls Tryd.prog 7 #[.agg #[.int .i64 n0, .int .i64 n1]] w' fun e w'' => e = .returned (.agg #[.int .i64 n0, .int .i64 n1]) ∧ Below w'.heap.size w' w'') := fun w' => toKey_c n0 n1 w'
  clear hS hI hD0 hC0
  go_enter Tryd.func5, Tryd.ntmps5
  go_wp2_with fail
  obtain ⟨W1, hW1⟩ : ∃ U, U = w.alloc (.cells #[.int .i64 n0, .int .i64 n1] 23) := ⟨_, rfl⟩
  have b1 : Below w.heap.size w W1 := by rw [hW1]; exact (Below.refl _ _).alloc (Nat.le_refl _) _
  have i1 : W1.heap[w.heap.size]? = some (.cells #[.int .i64 n0, .int .i64 n1] 23 (0, 0)) := by rw [hW1]; exact heap_alloc_new w _
  have z1 : W1.heap.size = w.heap.size + 1 := by rw [hW1]; simp
  have HI1 : Hid (∀ w', Below W1.heap.size W1 w' → w'.heap[w.heap.size]? = some (.cells #[.int .i64 n0, .int .i64 n1] 23 (0, 0))) := fun w' h => (h.block _ (by omega)).trans i1
  rw [← hW1]
  clear hW1 i1
  refine (qt.out _).mono ?_
  rintro e wa ⟨rfl, ha⟩
  have bwa : Below w.heap.size w wa := b1.trans (ha.mono b1.size)
  go_wp2_with fail
  refine (qS.out _ bwa).mono ?_
  rintro e w1 ⟨W0, rfl, p_W0, hbwX⟩
  have hbw1 : Below w.heap.size w w1 := bwa.trans (hbwX.mono bwa.size)
  have HA1 : Hid (Below W1.heap.size W1 w1 ∧ W1.heap.size = w.heap.size + 1) := ⟨ha.trans (hbwX.mono ha.size), z1⟩
  clear ha bwa hbwX z1 b1
  have RW0 : Hid (Reads (.sl .u8) w1 [W0] D0) := p_W0
  have zw1 : w.heap.size ≤ w1.heap.size := hbw1.size
  have bw1 := (Below.refl w.heap.size w).trans (hbw1.mono (Below.refl w.heap.size w).size)
  clear hbw1
  have sw1 : Below w1.heap.size w1 w1 := Below.refl _ _
  clear p_W0
  have zzl : w.heap.size < w1.heap.size := by have := HA1.out.1.size; have := HA1.out.2; omega
  have y0 : w1.cell? ⟨w.heap.size, 0, none⟩ = some (.int .i64 n0) := box_cell (HI1.out _ HA1.out.1) rfl
  have y1 : w1.cell? ⟨w.heap.size, 1, none⟩ = some (.int .i64 n1) := box_cell (HI1.out _ HA1.out.1) rfl
  go_wp2_with fail
  clear y0 y1 zzl
  refine (qt.out _).mono ?_
  rintro e wb ⟨rfl, hxwb⟩
  go_wp2_with fail
  refine (qI.out _ (bw1.trans (hxwb.mono bw1.size))).mono ?_
  rintro e w2 ⟨g0, F_g0, rfl, p_g0, nd_g0, hyw2⟩
  have hbw2 : Below w1.heap.size w1 w2 := hxwb.trans (hyw2.mono hxwb.size)
  have p_g0 := p_g0.base hxwb.size
  clear hxwb hyw2
  have zw2 : w1.heap.size ≤ w2.heap.size := hbw2.size
  have bw2 := bw1.trans (hbw2.mono bw1.size)
  clear bw1
  have sw2 := sw1.trans (hbw2.mono sw1.size)
  clear sw1
  clear hbw2
  have lt_g0 : Hid (∀ g ∈ F_g0, w1.heap.size ≤ g ∧ g < w2.heap.size) := p_g0.lt
  go_wp2_with fail
  refine (eqByteS_v _ _ D0 _ p_g0.reads (RW0.out.later sw2) (by have := HD0.out.1; omega)).mono ?_
  rintro e w3 ⟨rfl, hbw3⟩
  have zw3 : w2.heap.size ≤ w3.heap.size := hbw3.size
  have bw3 := bw2.trans (hbw3.mono bw2.size)
  clear bw2
  have sw3 := sw2.trans (hbw3.mono sw2.size)
  clear sw2
  have o_g0_w3 := p_g0.later hbw3
  clear p_g0
  clear hbw3
  have hcj0 := HD0.out.2
  go_wp2_with fail
  refine (markByteS_c _ _ _ (1) D0 F_g0 _ (by first | rfl | omega | (simp; done)) o_g0_w3 nd_g0 (by omega) (by omega)).mono ?_
  rintro e w4 ⟨rfl, p2_g0, htw4⟩
  have zw4 : w3.heap.size ≤ w4.heap.size := htw4.size
  have bw4 := htw4.below bw3 bw3.size (fun g hg => by have h9 := (lt_g0.out g hg).1; omega)
  clear bw3
  have sw4 := htw4.below sw3 sw3.size (fun g hg => by have h9 := (lt_g0.out g hg).1; omega)
  clear sw3
  clear o_g0_w3
  clear htw4
  have hqq : ¬ (((1 + Sh.cnt (.sl .u8) D0 : Nat) : Int) < 0) := by omega
  have hmm : ((((1 + Sh.cnt (.sl .u8) D0 : Nat) : Int)) != (((1 + Sh.cnt (.sl .u8) D0 : Nat) : Int))) = false := by simp
  go_wp2_with fail
  refine (heldByteS_c _ _ _ (1) D0 F_g0 _ (by first | rfl | omega | (simp; done)) p2_g0 nd_g0 (by omega) (by omega)).mono ?_
  rintro e w5 ⟨rfl, hbw5⟩
  have zw5 : w4.heap.size ≤ w5.heap.size := hbw5.size
  have bw5 := bw4.trans (hbw5.mono bw4.size)
  clear bw4
  have sw5 := sw4.trans (hbw5.mono sw4.size)
  clear sw4
  have o_g0_w5 := p2_g0.later hbw5
  clear p2_g0
  clear hbw5
  have zzl : w.heap.size < w5.heap.size := by have := (HA1.out.1.trans (sw5.mono HA1.out.1.size)).size; have := HA1.out.2; omega
  have y0 : w5.cell? ⟨w.heap.size, 0, none⟩ = some (.int .i64 n0) := box_cell (HI1.out _ (HA1.out.1.trans (sw5.mono HA1.out.1.size))) rfl
  have y1 : w5.cell? ⟨w.heap.size, 1, none⟩ = some (.int .i64 n1) := box_cell (HI1.out _ (HA1.out.1.trans (sw5.mono HA1.out.1.size))) rfl
  go_wp2_with fail
  clear y0 y1 zzl
  refine (qt.out _).mono ?_
  rintro e wc ⟨rfl, hxwc⟩
  go_wp2_with fail
  refine (qI.out _ (bw5.trans (hxwc.mono bw5.size))).mono ?_
  rintro e w6 ⟨k0, F_k0, rfl, p_k0, nd_k0, hyw6⟩
  have hbw6 : Below w5.heap.size w5 w6 := hxwc.trans (hyw6.mono hxwc.size)
  have p_k0 := p_k0.base hxwc.size
  clear hxwc hyw6
  have zw6 : w5.heap.size ≤ w6.heap.size := hbw6.size
  have bw6 := bw5.trans (hbw6.mono bw5.size)
  clear bw5
  have sw6 := sw5.trans (hbw6.mono sw5.size)
  clear sw5
  have o_g0_w6 := o_g0_w5.later hbw6
  clear o_g0_w5
  clear hbw6
  have lt_k0 : Hid (∀ g ∈ F_k0, w5.heap.size ≤ g ∧ g < w6.heap.size) := p_k0.lt
  go_wp2_with fail
  refine (eqByteS_v _ _ D0 _ p_k0.reads (RW0.out.later sw6) (by have := HD0.out.1; omega)).mono ?_
  rintro e w7 ⟨rfl, hbw7⟩
  have zw7 : w6.heap.size ≤ w7.heap.size := hbw7.size
  have bw7 := bw6.trans (hbw7.mono bw6.size)
  clear bw6
  have sw7 := sw6.trans (hbw7.mono sw6.size)
  clear sw6
  have o_g0_w7 := o_g0_w6.later hbw7
  clear o_g0_w6
  have o_k0_w7 := p_k0.later hbw7
  clear p_k0
  clear hbw7
  go_wp2_with fail
  refine (heldByteS_c _ _ _ (1) D0 F_g0 _ (by first | rfl | omega | (simp; done)) o_g0_w7 nd_g0 (by omega) (by omega)).mono ?_
  rintro e w8 ⟨rfl, hbw8⟩
  have zw8 : w7.heap.size ≤ w8.heap.size := hbw8.size
  have bw8 := bw7.trans (hbw8.mono bw7.size)
  clear bw7
  have sw8 := sw7.trans (hbw8.mono sw7.size)
  clear sw7
  have o_g0_w8 := o_g0_w7.later hbw8
  clear o_g0_w7
  have o_k0_w8 := o_k0_w7.later hbw8
  clear o_k0_w7
  clear hbw8
  go_wp2
  go_ret
  exact ⟨rfl, bw8⟩

end Go.Proofs.YtndlehogfedfaaaDoor
