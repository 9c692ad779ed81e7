/-
  The walk of the law FnExactEmitRunes over the contracts of its two functions. By program (lawgen3.py).
-/
import Derived.Test.YtcchjcllkfaadaaMkB
import Derived.Test.YtcchjcllkfaadaaVB
import Derived.Test.YtcchjcllkfaadaaVI
namespace Go.Proofs.Ytcchjcllkfaadaa
open Go.RowKit
set_option linter.unusedVariables false

set_option maxRecDepth 100000 in
set_option maxHeartbeats 8000000 in
theorem emitRunes_over (v0 : Value) (d0 : List Int) (D0 : List Int) (w : World) (hr0 : Reads (.sl .int) w [v0] d0) (hD0 : D0.length ≤ 16777216) (hC0 : Sh.cnt (.sl .u8) D0 ≤ 1000000000)
    (hcd0 : d0.length ≤ 1048576 → Sh.cnt (.sl .int) d0 ≤ 1000000000)
    (hS : ∀ w' c0 G0, Own (.sl .int) w' 0 [c0] d0 G0 → d0.length ≤ 1048576 → Calls Try.prog 4 #[c0] w' fun e w'' => ∃ o0, e = .returned (o0) ∧ Reads (.sl .u8) w'' [o0] D0 ∧ Below w'.heap.size w' w'')
    (hI : ∀ w' c0 G0, Own (.sl .int) w' 0 [c0] d0 G0 → d0.length ≤ 1048576 → Calls Try.prog 6 #[c0] w' fun e w'' => ∃ o0 F0, e = .returned (o0) ∧ Own (.sl .u8) w'' w'.heap.size [o0] D0 F0 ∧ F0.Nodup ∧ Below w'.heap.size w' w'') :
    Calls Try.prog 3 #[v0] w fun e w' => e = .returned (.bool true) ∧ Below w.heap.size w w' := by
  have qto0 : Hid (∀ w', Below w.heap.size w w' → d0.length ≤ 1048576 → Calls Try.prog 5 #[v0] w' fun e w'' => ∃ v' F, e = .returned v' ∧ Own (.sl .int) w'' w'.heap.size [v'] d0 F ∧ F.Nodup ∧ Below w'.heap.size w' w'') := fun w' h' hs => toIntS_v v0 d0 w' (hr0.later h') hs
  have qeq0 : Hid (∀ w' c1 c2, Reads (.sl .int) w' [c1] d0 → Reads (.sl .int) w' [c2] d0 → d0.length ≤ 1048576 → Calls Try.prog 8 #[c1, c2] w' fun e w'' => e = .returned (.bool true) ∧ Below w'.heap.size w' w'') := fun w' c1 c2 h1 h2 hs => eqIntS_v c1 c2 d0 w' h1 h2 (by omega)
  obtain ⟨a0, cp0, e0', _, hm0⟩ := reads_val hr0
  have e0 : v0 = .slice a0 d0.length cp0 := e0'
  clear e0'
  obtain ⟨L0, hL0⟩ : ∃ L, L = d0.length := ⟨_, rfl⟩
  rw [← hL0] at e0
  unfold maxLen at hm0
  have qS : Hid (∀ w' c0 G0, Own (.sl .int) w' 0 [c0] d0 G0 → d0.length ≤ 1048576 → Calls Try.prog 4 #[c0] w' fun e w'' => ∃ o0, e = .returned (o0) ∧ Reads (.sl .u8) w'' [o0] D0 ∧ Below w'.heap.size w' w'') := hS
  have qI : Hid (∀ w' c0 G0, Own (.sl .int) w' 0 [c0] d0 G0 → d0.length ≤ 1048576 → Calls Try.prog 6 #[c0] w' fun e w'' => ∃ o0 F0, e = .returned (o0) ∧ Own (.sl .u8) w'' w'.heap.size [o0] D0 F0 ∧ F0.Nodup ∧ Below w'.heap.size w' w'') := hI
  have qcd0 : Hid (d0.length ≤ 1048576 → Sh.cnt (.sl .int) d0 ≤ 1000000000) := hcd0
  have HD0 : Hid (_ ∧ _) := ⟨hD0, hC0⟩
  clear hS hI hr0 hcd0 hD0 hC0
  subst e0
  have HL0 : Hid (L0 = d0.length) := hL0
  clear hL0
  by_cases hs0 : L0 ≤ 1048576
  case neg =>
    have ht : (1048576 : Int) < (L0 : Int) := by omega
    go_enter Try.func3, Try.ntmps3
    go_wp2
    go_ret
    exact ⟨rfl, Below.refl _ _⟩
  have ht0 : ¬ (1048576 : Int) < (L0 : Int) := by omega
  go_enter Try.func3, Try.ntmps3
  have HZ0 : Hid (d0.length ≤ 1048576) := by show d0.length ≤ 1048576; rw [← HL0.out]; omega
  have hcc0 := qcd0.out HZ0.out
  go_wp2_with fail
  refine (qto0.out _ (Below.refl w.heap.size w) HZ0.out).mono ?_
  rintro e w1 ⟨u_y0, F_y0, rfl, p_y0, nd_y0, hbw1⟩
  have zw1 : w.heap.size ≤ w1.heap.size := hbw1.size
  have bw1 := (Below.refl w.heap.size w).trans (hbw1.mono (Below.refl w.heap.size w).size)
  clear hbw1
  have lt_y0 : Hid (∀ g ∈ F_y0, w.heap.size ≤ g ∧ g < w1.heap.size) := p_y0.lt
  go_wp2_with fail
  refine (qS.out _ _ _ (p_y0.base (Nat.zero_le _)) HZ0.out).mono ?_
  rintro e w2 ⟨W0, rfl, p_W0, hbw2⟩
  have RW0 : Hid (Reads (.sl .u8) w2 [W0] D0) := p_W0
  have zw2 : w1.heap.size ≤ w2.heap.size := hbw2.size
  have bw2 := bw1.trans (hbw2.mono bw1.size)
  clear bw1
  have o_y0_w2 := p_y0.later hbw2
  clear p_y0
  clear hbw2
  have sw2 : Below w2.heap.size w2 w2 := Below.refl _ _
  clear p_W0
  clear o_y0_w2 nd_y0 lt_y0
  go_wp2_with fail
  refine (qto0.out _ bw2 HZ0.out).mono ?_
  rintro e w3 ⟨u_x0, F_x0, rfl, p_x0, nd_x0, hbw3⟩
  have zw3 : w2.heap.size ≤ w3.heap.size := hbw3.size
  have bw3 := bw2.trans (hbw3.mono bw2.size)
  clear bw2
  have sw3 := sw2.trans (hbw3.mono sw2.size)
  clear sw2
  clear hbw3
  have lt_x0 : Hid (∀ g ∈ F_x0, w2.heap.size ≤ g ∧ g < w3.heap.size) := p_x0.lt
  go_wp2_with fail
  refine (qI.out _ _ _ (p_x0.base (Nat.zero_le _)) HZ0.out).mono ?_
  rintro e w4 ⟨g0, F_g0, rfl, p_g0, nd_g0, hbw4⟩
  have zw4 : w3.heap.size ≤ w4.heap.size := hbw4.size
  have bw4 := bw3.trans (hbw4.mono bw3.size)
  clear bw3
  have sw4 := sw3.trans (hbw4.mono sw3.size)
  clear sw3
  have o_x0_w4 := p_x0.later hbw4
  clear p_x0
  clear hbw4
  have lt_g0 : Hid (∀ g ∈ F_g0, w3.heap.size ≤ g ∧ g < w4.heap.size) := p_g0.lt
  go_wp2_with fail
  refine (eqByteS_v _ _ D0 _ p_g0.reads (RW0.out.later sw4) (by have := HD0.out.1; omega)).mono ?_
  rintro e w5 ⟨rfl, hbw5⟩
  have zw5 : w4.heap.size ≤ w5.heap.size := hbw5.size
  have bw5 := bw4.trans (hbw5.mono bw4.size)
  clear bw4
  have sw5 := sw4.trans (hbw5.mono sw4.size)
  clear sw4
  have o_x0_w5 := o_x0_w4.later hbw5
  clear o_x0_w4
  have o_g0_w5 := p_g0.later hbw5
  clear p_g0
  clear hbw5
  go_wp2_with fail
  refine (qto0.out _ bw5 HZ0.out).mono ?_
  rintro e w6 ⟨u_t0, F_t0, rfl, p_t0, nd_t0, hbw6⟩
  have zw6 : w5.heap.size ≤ w6.heap.size := hbw6.size
  have bw6 := bw5.trans (hbw6.mono bw5.size)
  clear bw5
  have sw6 := sw5.trans (hbw6.mono sw5.size)
  clear sw5
  have o_x0_w6 := o_x0_w5.later hbw6
  clear o_x0_w5
  have o_g0_w6 := o_g0_w5.later hbw6
  clear o_g0_w5
  clear hbw6
  have lt_t0 : Hid (∀ g ∈ F_t0, w5.heap.size ≤ g ∧ g < w6.heap.size) := p_t0.lt
  go_wp2_with fail
  refine (qeq0.out _ _ _ o_x0_w6.reads p_t0.reads HZ0.out).mono ?_
  rintro e w7 ⟨rfl, hbw7⟩
  have zw7 : w6.heap.size ≤ w7.heap.size := hbw7.size
  have bw7 := bw6.trans (hbw7.mono bw6.size)
  clear bw6
  have sw7 := sw6.trans (hbw7.mono sw6.size)
  clear sw6
  have o_x0_w7 := o_x0_w6.later hbw7
  clear o_x0_w6
  have o_g0_w7 := o_g0_w6.later hbw7
  clear o_g0_w6
  have o_t0_w7 := p_t0.later hbw7
  clear p_t0
  clear hbw7
  clear o_t0_w7 nd_t0 lt_t0
  go_wp2_with fail
  refine (markIntS_v _ _ _ (1) d0 F_x0 _ (by first | rfl | omega | (simp; done)) o_x0_w7 nd_x0 (by omega) (by omega)).mono ?_
  rintro e w8 ⟨rfl, p2_x0, htw8⟩
  have zw8 : w7.heap.size ≤ w8.heap.size := htw8.size
  have bw8 := htw8.below bw7 bw7.size (fun g hg => by have h9 := (lt_x0.out g hg).1; omega)
  clear bw7
  have sw8 := htw8.below sw7 sw7.size (fun g hg => by have h9 := (lt_x0.out g hg).1; omega)
  clear sw7
  clear o_x0_w7
  have o_g0_w8 := htw8.own o_g0_w7 (fun g hg hf => by have h8 := lt_g0.out g hg; have h9 := lt_x0.out g hf; omega)
  clear o_g0_w7
  clear htw8
  have hkk : ¬ (((1 + Sh.cnt (.sl .int) d0 : Nat) : Int) < 0) := by omega
  clear p2_x0 nd_x0 lt_x0
  go_wp2_with fail
  refine (eqByteS_v _ _ D0 _ o_g0_w8.reads (RW0.out.later sw8) (by have := HD0.out.1; omega)).mono ?_
  rintro e w9 ⟨rfl, hbw9⟩
  have zw9 : w8.heap.size ≤ w9.heap.size := hbw9.size
  have bw9 := bw8.trans (hbw9.mono bw8.size)
  clear bw8
  have sw9 := sw8.trans (hbw9.mono sw8.size)
  clear sw8
  have o_g0_w9 := o_g0_w8.later hbw9
  clear o_g0_w8
  clear hbw9
  clear hkk
  have hcj0 := HD0.out.2
  go_wp2_with fail
  refine (markByteS_v _ _ _ (1) D0 F_g0 _ (by first | rfl | omega | (simp; done)) o_g0_w9 nd_g0 (by omega) (by omega)).mono ?_
  rintro e w10 ⟨rfl, p2_g0, htw10⟩
  have zw10 : w9.heap.size ≤ w10.heap.size := htw10.size
  have bw10 := htw10.below bw9 bw9.size (fun g hg => by have h9 := (lt_g0.out g hg).1; omega)
  clear bw9
  have sw10 := htw10.below sw9 sw9.size (fun g hg => by have h9 := (lt_g0.out g hg).1; omega)
  clear sw9
  clear o_g0_w9
  clear htw10
  have hqq : ¬ (((1 + Sh.cnt (.sl .u8) D0 : Nat) : Int) < 0) := by omega
  have hmm : ((((1 + Sh.cnt (.sl .u8) D0 : Nat) : Int)) != (((1 + Sh.cnt (.sl .u8) D0 : Nat) : Int))) = false := by simp
  go_wp2_with fail
  refine (heldByteS_v _ _ _ (1) D0 F_g0 _ (by first | rfl | omega | (simp; done)) p2_g0 nd_g0 (by omega) (by omega)).mono ?_
  rintro e w11 ⟨rfl, hbw11⟩
  have zw11 : w10.heap.size ≤ w11.heap.size := hbw11.size
  have bw11 := bw10.trans (hbw11.mono bw10.size)
  clear bw10
  have sw11 := sw10.trans (hbw11.mono sw10.size)
  clear sw10
  have o_g0_w11 := p2_g0.later hbw11
  clear p2_g0
  clear hbw11
  go_wp2_with fail
  refine (qto0.out _ bw11 HZ0.out).mono ?_
  rintro e w12 ⟨u_h0, F_h0, rfl, p_h0, nd_h0, hbw12⟩
  have zw12 : w11.heap.size ≤ w12.heap.size := hbw12.size
  have bw12 := bw11.trans (hbw12.mono bw11.size)
  clear bw11
  have sw12 := sw11.trans (hbw12.mono sw11.size)
  clear sw11
  have o_g0_w12 := o_g0_w11.later hbw12
  clear o_g0_w11
  clear hbw12
  have lt_h0 : Hid (∀ g ∈ F_h0, w11.heap.size ≤ g ∧ g < w12.heap.size) := p_h0.lt
  go_wp2_with fail
  refine (qI.out _ _ _ (p_h0.base (Nat.zero_le _)) HZ0.out).mono ?_
  rintro e w13 ⟨k0, F_k0, rfl, p_k0, nd_k0, hbw13⟩
  have zw13 : w12.heap.size ≤ w13.heap.size := hbw13.size
  have bw13 := bw12.trans (hbw13.mono bw12.size)
  clear bw12
  have sw13 := sw12.trans (hbw13.mono sw12.size)
  clear sw12
  have o_g0_w13 := o_g0_w12.later hbw13
  clear o_g0_w12
  have o_h0_w13 := p_h0.later hbw13
  clear p_h0
  clear hbw13
  have lt_k0 : Hid (∀ g ∈ F_k0, w12.heap.size ≤ g ∧ g < w13.heap.size) := p_k0.lt
  go_wp2_with fail
  refine (eqByteS_v _ _ D0 _ p_k0.reads (RW0.out.later sw13) (by have := HD0.out.1; omega)).mono ?_
  rintro e w14 ⟨rfl, hbw14⟩
  have zw14 : w13.heap.size ≤ w14.heap.size := hbw14.size
  have bw14 := bw13.trans (hbw14.mono bw13.size)
  clear bw13
  have sw14 := sw13.trans (hbw14.mono sw13.size)
  clear sw13
  have o_g0_w14 := o_g0_w13.later hbw14
  clear o_g0_w13
  have o_h0_w14 := o_h0_w13.later hbw14
  clear o_h0_w13
  have o_k0_w14 := p_k0.later hbw14
  clear p_k0
  clear hbw14
  go_wp2_with fail
  refine (heldByteS_v _ _ _ (1) D0 F_g0 _ (by first | rfl | omega | (simp; done)) o_g0_w14 nd_g0 (by omega) (by omega)).mono ?_
  rintro e w15 ⟨rfl, hbw15⟩
  have zw15 : w14.heap.size ≤ w15.heap.size := hbw15.size
  have bw15 := bw14.trans (hbw15.mono bw14.size)
  clear bw14
  have sw15 := sw14.trans (hbw15.mono sw14.size)
  clear sw14
  have o_g0_w15 := o_g0_w14.later hbw15
  clear o_g0_w14
  have o_h0_w15 := o_h0_w14.later hbw15
  clear o_h0_w14
  have o_k0_w15 := o_k0_w14.later hbw15
  clear o_k0_w14
  clear hbw15
  go_wp2
  go_ret
  exact ⟨rfl, bw15⟩

end Go.Proofs.Ytcchjcllkfaadaa
