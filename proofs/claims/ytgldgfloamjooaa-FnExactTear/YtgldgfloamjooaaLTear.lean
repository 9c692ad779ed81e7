/-
  The walk of the law FnExactTear over the contracts of its two functions. By program (lawgen2.py).
-/
import Derived.Test.YtgldgfloamjooaaVB
namespace Go.Proofs.Ytgldgfloamjooaa
open Go.RowKit
set_option linter.unusedVariables false

set_option maxRecDepth 100000 in
set_option maxHeartbeats 4000000 in
theorem tear_over (v0 : Value) (d0 : List Int) (v1 : Value) (d1 : List Int) (n2 : Int) (D0 : List Int) (w : World) (hr0 : Reads (.sl .u8) w [v0] d0) (hr1 : Reads (.sl .u8) w [v1] d1) (hD0 : D0.length ≤ 2097152) (hC0 : Sh.cnt (.sl .u8) D0 ≤ 1000000000)
    (hS : ∀ w' c0 G0 c1 G1, Own (.sl .u8) w' 0 [c0] d0 G0 → Own (.sl .u8) w' 0 [c1] d1 G1 → d0.length ≤ 1048576 → d1.length ≤ 1048576 → Calls Try.prog 14 #[c0, c1, .int .i64 n2] w' fun e w'' => ∃ o0, e = .returned (o0) ∧ Reads (.sl .u8) w'' [o0] D0 ∧ Below w'.heap.size w' w'')
    (hI : ∀ w' c0 G0 c1 G1, Own (.sl .u8) w' 0 [c0] d0 G0 → Own (.sl .u8) w' 0 [c1] d1 G1 → d0.length ≤ 1048576 → d1.length ≤ 1048576 → Calls Try.prog 9 #[c0, c1, .int .i64 n2] w' fun e w'' => ∃ o0 F0, e = .returned (o0) ∧ Own (.sl .u8) w'' w'.heap.size [o0] D0 F0 ∧ F0.Nodup ∧ Below w'.heap.size w' w'') :
    Calls Try.prog 5 #[v0, v1, .int .i64 n2] w fun e w' => e = .returned (.bool true) ∧ Below w.heap.size w w' := by
  have qto0 : Hid (∀ w', Below w.heap.size w w' → d0.length ≤ 1048576 → Calls Try.prog 12 #[v0] w' fun e w'' => ∃ v' F, e = .returned v' ∧ Own (.sl .u8) w'' w'.heap.size [v'] d0 F ∧ F.Nodup ∧ Below w'.heap.size w' w'') := fun w' h' hs => toByteS_v v0 d0 w' (hr0.later h') hs
  have hc0 : Hid (d0.length ≤ 1048576 → Sh.cnt (.sl .u8) d0 ≤ 100000000) := fun hs => by have := cnt_le (.sl .u8) d0; rw [cnt_byteS]; omega
  obtain ⟨a0, cp0, e0', _, hm0⟩ := reads_val hr0
  have e0 : v0 = .slice a0 d0.length cp0 := e0'
  clear e0'
  obtain ⟨L0, hL0⟩ : ∃ L, L = d0.length := ⟨_, rfl⟩
  rw [← hL0] at e0
  unfold maxLen at hm0
  have qto1 : Hid (∀ w', Below w.heap.size w w' → d1.length ≤ 1048576 → Calls Try.prog 12 #[v1] w' fun e w'' => ∃ v' F, e = .returned v' ∧ Own (.sl .u8) w'' w'.heap.size [v'] d1 F ∧ F.Nodup ∧ Below w'.heap.size w' w'') := fun w' h' hs => toByteS_v v1 d1 w' (hr1.later h') hs
  have hc1 : Hid (d1.length ≤ 1048576 → Sh.cnt (.sl .u8) d1 ≤ 100000000) := fun hs => by have := cnt_le (.sl .u8) d1; rw [cnt_byteS]; omega
  obtain ⟨a1, cp1, e1', _, hm1⟩ := reads_val hr1
  have e1 : v1 = .slice a1 d1.length cp1 := e1'
  clear e1'
  obtain ⟨L1, hL1⟩ : ∃ L, L = d1.length := ⟨_, rfl⟩
  rw [← hL1] at e1
  unfold maxLen at hm1
  have qS : Hid (∀ w' c0 G0 c1 G1, Own (.sl .u8) w' 0 [c0] d0 G0 → Own (.sl .u8) w' 0 [c1] d1 G1 → d0.length ≤ 1048576 → d1.length ≤ 1048576 → Calls Try.prog 14 #[c0, c1, .int .i64 n2] w' fun e w'' => ∃ o0, e = .returned (o0) ∧ Reads (.sl .u8) w'' [o0] D0 ∧ Below w'.heap.size w' w'') := hS
  have qI : Hid (∀ w' c0 G0 c1 G1, Own (.sl .u8) w' 0 [c0] d0 G0 → Own (.sl .u8) w' 0 [c1] d1 G1 → d0.length ≤ 1048576 → d1.length ≤ 1048576 → Calls Try.prog 9 #[c0, c1, .int .i64 n2] w' fun e w'' => ∃ o0 F0, e = .returned (o0) ∧ Own (.sl .u8) w'' w'.heap.size [o0] D0 F0 ∧ F0.Nodup ∧ Below w'.heap.size w' w'') := hI
  have hD0' : Hid (_ ∧ _) := ⟨hD0, hC0⟩
  clear hS hI hr0 hr1 hD0 hC0
  by_cases hs0 : L0 ≤ 1048576
  case neg =>
    have ht : (1048576 : Int) < (L0 : Int) := by omega
    subst e0
    subst e1
    go_enter Try.func5, Try.ntmps5
    go_wp2
    go_ret
    exact ⟨rfl, Below.refl _ _⟩
  by_cases hs1 : L1 ≤ 1048576
  case neg =>
    have ht : (1048576 : Int) < (L1 : Int) := by omega
    have ht0 : ¬ (1048576 : Int) < (L0 : Int) := by omega
    subst e0
    subst e1
    go_enter Try.func5, Try.ntmps5
    go_wp2
    go_ret
    exact ⟨rfl, Below.refl _ _⟩
  have ht0 : ¬ (1048576 : Int) < (L0 : Int) := by omega
  have ht1 : ¬ (1048576 : Int) < (L1 : Int) := by omega
  have hz0 : d0.length ≤ 1048576 := by omega
  subst e0
  have hz1 : d1.length ≤ 1048576 := by omega
  subst e1
  have hC0 := hc0.out hz0
  have HZ0 : Hid (d0.length ≤ 1048576) := hz0
  clear hz0 hL0
  have hC1 := hc1.out hz1
  have HZ1 : Hid (d1.length ≤ 1048576) := hz1
  clear hz1 hL1
  go_enter Try.func5, Try.ntmps5
  go_wp2_with fail
  refine (qto0.out _ (Below.refl w.heap.size w) HZ0.out).mono ?_
  rintro e w1 ⟨u_y0, F_y0, rfl, p_y0, nd_y0, hbw1⟩
  have bw1 := (Below.refl w.heap.size w).trans (hbw1.mono (Below.refl w.heap.size w).size)
  have zw1 := hbw1.size
  have lt_y0 : Hid (∀ g ∈ F_y0, w.heap.size ≤ g ∧ g < w1.heap.size) := p_y0.lt
  go_wp2_with fail
  refine (qto1.out _ bw1 HZ1.out).mono ?_
  rintro e w2 ⟨u_y1, F_y1, rfl, p_y1, nd_y1, hbw2⟩
  have bw2 := bw1.trans (hbw2.mono bw1.size)
  have o_y0_w2 := p_y0.later hbw2
  have zw2 := hbw2.size
  have lt_y1 : Hid (∀ g ∈ F_y1, w1.heap.size ≤ g ∧ g < w2.heap.size) := p_y1.lt
  go_wp2_with fail
  refine (qS.out _ _ _ _ _ (o_y0_w2.base (Nat.zero_le _)) (p_y1.base (Nat.zero_le _)) HZ0.out HZ1.out).mono ?_
  rintro e w3 ⟨W0, rfl, rW0, hbw3⟩
  have bw3 := bw2.trans (hbw3.mono bw2.size)
  have o_y0_w3 := o_y0_w2.later hbw3
  have o_y1_w3 := p_y1.later hbw3
  have zw3 := hbw3.size
  clear nd_y0
  clear nd_y1
  have sw3 : Below w3.heap.size w3 w3 := Below.refl _ _
  have RW0 : Hid (Reads (.sl .u8) w3 [W0] D0) := rW0
  clear rW0
  go_wp2_with fail
  refine (qto0.out _ bw3 HZ0.out).mono ?_
  rintro e w4 ⟨u_x0, F_x0, rfl, p_x0, nd_x0, hbw4⟩
  have bw4 := bw3.trans (hbw4.mono bw3.size)
  have sw4 := sw3.trans (hbw4.mono sw3.size)
  have zw4 := hbw4.size
  have lt_x0 : Hid (∀ g ∈ F_x0, w3.heap.size ≤ g ∧ g < w4.heap.size) := p_x0.lt
  go_wp2_with fail
  refine (qto1.out _ bw4 HZ1.out).mono ?_
  rintro e w5 ⟨u_x1, F_x1, rfl, p_x1, nd_x1, hbw5⟩
  have bw5 := bw4.trans (hbw5.mono bw4.size)
  have sw5 := sw4.trans (hbw5.mono sw4.size)
  have o_x0_w5 := p_x0.later hbw5
  have zw5 := hbw5.size
  have lt_x1 : Hid (∀ g ∈ F_x1, w4.heap.size ≤ g ∧ g < w5.heap.size) := p_x1.lt
  go_wp2_with fail
  refine (qI.out _ _ _ _ _ (o_x0_w5.base (Nat.zero_le _)) (p_x1.base (Nat.zero_le _)) HZ0.out HZ1.out).mono ?_
  rintro e w6 ⟨g0, F_g0, rfl, p_g0, nd_g0, hbw6⟩
  have bw6 := bw5.trans (hbw6.mono bw5.size)
  have sw6 := sw5.trans (hbw6.mono sw5.size)
  have o_x0_w6 := o_x0_w5.later hbw6
  have o_x1_w6 := p_x1.later hbw6
  have zw6 := hbw6.size
  have lt_g0 : Hid (∀ g ∈ F_g0, w5.heap.size ≤ g ∧ g < w6.heap.size) := p_g0.lt
  go_wp2_with fail
  refine (eqByteS_v _ _ _ _ p_g0.reads (RW0.out.later sw6) hD0'.out.1).mono ?_
  rintro e w7 ⟨rfl, hbw7⟩
  have bw7 := bw6.trans (hbw7.mono bw6.size)
  have sw7 := sw6.trans (hbw7.mono sw6.size)
  have o_x0_w7 := o_x0_w6.later hbw7
  have o_x1_w7 := o_x1_w6.later hbw7
  have o_g0_w7 := p_g0.later hbw7
  have zw7 := hbw7.size
  go_wp2_with fail
  refine (qto0.out _ bw7 HZ0.out).mono ?_
  rintro e w8 ⟨u_t0, F_t0, rfl, p_t0, nd_t0, hbw8⟩
  have bw8 := bw7.trans (hbw8.mono bw7.size)
  have sw8 := sw7.trans (hbw8.mono sw7.size)
  have o_x0_w8 := o_x0_w7.later hbw8
  have o_x1_w8 := o_x1_w7.later hbw8
  have o_g0_w8 := o_g0_w7.later hbw8
  have zw8 := hbw8.size
  have lt_t0 : Hid (∀ g ∈ F_t0, w7.heap.size ≤ g ∧ g < w8.heap.size) := p_t0.lt
  go_wp2_with fail
  refine (eqByteS_v _ _ _ _ o_x0_w8.reads p_t0.reads (by have := HZ0.out; omega)).mono ?_
  rintro e w9 ⟨rfl, hbw9⟩
  have bw9 := bw8.trans (hbw9.mono bw8.size)
  have sw9 := sw8.trans (hbw9.mono sw8.size)
  have o_x0_w9 := o_x0_w8.later hbw9
  have o_x1_w9 := o_x1_w8.later hbw9
  have o_g0_w9 := o_g0_w8.later hbw9
  have o_t0_w9 := p_t0.later hbw9
  have zw9 := hbw9.size
  go_wp2_with fail
  refine (qto1.out _ bw9 HZ1.out).mono ?_
  rintro e w10 ⟨u_t1, F_t1, rfl, p_t1, nd_t1, hbw10⟩
  have bw10 := bw9.trans (hbw10.mono bw9.size)
  have sw10 := sw9.trans (hbw10.mono sw9.size)
  have o_x0_w10 := o_x0_w9.later hbw10
  have o_x1_w10 := o_x1_w9.later hbw10
  have o_g0_w10 := o_g0_w9.later hbw10
  have zw10 := hbw10.size
  have lt_t1 : Hid (∀ g ∈ F_t1, w9.heap.size ≤ g ∧ g < w10.heap.size) := p_t1.lt
  go_wp2_with fail
  refine (eqByteS_v _ _ _ _ o_x1_w10.reads p_t1.reads (by have := HZ1.out; omega)).mono ?_
  rintro e w11 ⟨rfl, hbw11⟩
  have bw11 := bw10.trans (hbw11.mono bw10.size)
  have sw11 := sw10.trans (hbw11.mono sw10.size)
  have o_x0_w11 := o_x0_w10.later hbw11
  have o_x1_w11 := o_x1_w10.later hbw11
  have o_g0_w11 := o_g0_w10.later hbw11
  have o_t1_w11 := p_t1.later hbw11
  have zw11 := hbw11.size
  go_wp2_with fail
  refine (markByteS_v _ _ _ (1) _ _ _ (by first | rfl | omega | (simp; done)) o_x0_w11 nd_x0 (by omega) (by omega)).mono ?_
  rintro e w12 ⟨rfl, p2_x0, htw12⟩
  have bw12 := htw12.below bw11 bw11.size (fun g hg => by have h9 := (lt_x0.out g hg).1; have := zw1; have := zw2; have := zw3; have := zw4; have := zw5; have := zw6; have := zw7; have := zw8; have := zw9; have := zw10; have := zw11; omega)
  have sw12 := htw12.below sw11 sw11.size (fun g hg => by have h9 := (lt_x0.out g hg).1; have := zw1; have := zw2; have := zw3; have := zw4; have := zw5; have := zw6; have := zw7; have := zw8; have := zw9; have := zw10; have := zw11; omega)
  have o_x1_w12 := htw12.own o_x1_w11 (fun g hg hf => by have h8 := lt_x1.out g hg; have h9 := lt_x0.out g hf; have := zw1; have := zw2; have := zw3; have := zw4; have := zw5; have := zw6; have := zw7; have := zw8; have := zw9; have := zw10; have := zw11; omega)
  have o_g0_w12 := htw12.own o_g0_w11 (fun g hg hf => by have h8 := lt_g0.out g hg; have h9 := lt_x0.out g hf; have := zw1; have := zw2; have := zw3; have := zw4; have := zw5; have := zw6; have := zw7; have := zw8; have := zw9; have := zw10; have := zw11; omega)
  have zw12 := htw12.size
  go_wp2_with fail
  refine (markByteS_v _ _ _ (1 + Sh.cnt (.sl .u8) d0) _ _ _ (by first | rfl | omega | (simp; done)) o_x1_w12 nd_x1 (by omega) (by omega)).mono ?_
  rintro e w13 ⟨rfl, p2_x1, htw13⟩
  have bw13 := htw13.below bw12 bw12.size (fun g hg => by have h9 := (lt_x1.out g hg).1; have := zw1; have := zw2; have := zw3; have := zw4; have := zw5; have := zw6; have := zw7; have := zw8; have := zw9; have := zw10; have := zw11; have := zw12; omega)
  have sw13 := htw13.below sw12 sw12.size (fun g hg => by have h9 := (lt_x1.out g hg).1; have := zw1; have := zw2; have := zw3; have := zw4; have := zw5; have := zw6; have := zw7; have := zw8; have := zw9; have := zw10; have := zw11; have := zw12; omega)
  have o_x0_w13 := htw13.own p2_x0 (fun g hg hf => by have h8 := lt_x0.out g hg; have h9 := lt_x1.out g hf; have := zw1; have := zw2; have := zw3; have := zw4; have := zw5; have := zw6; have := zw7; have := zw8; have := zw9; have := zw10; have := zw11; have := zw12; omega)
  have o_g0_w13 := htw13.own o_g0_w12 (fun g hg hf => by have h8 := lt_g0.out g hg; have h9 := lt_x1.out g hf; have := zw1; have := zw2; have := zw3; have := zw4; have := zw5; have := zw6; have := zw7; have := zw8; have := zw9; have := zw10; have := zw11; have := zw12; omega)
  have zw13 := htw13.size
  have hkk : ¬ (((1 + Sh.cnt (.sl .u8) d0 + Sh.cnt (.sl .u8) d1 : Nat) : Int) < 0) := by omega
  go_wp2_with fail
  refine (eqByteS_v _ _ _ _ o_g0_w13.reads (RW0.out.later sw13) hD0'.out.1).mono ?_
  rintro e w14 ⟨rfl, hbw14⟩
  have bw14 := bw13.trans (hbw14.mono bw13.size)
  have sw14 := sw13.trans (hbw14.mono sw13.size)
  have o_g0_w14 := o_g0_w13.later hbw14
  have zw14 := hbw14.size
  clear hkk
  have hCj0 := hD0'.out.2
  go_wp2_with fail
  refine (markByteS_v _ _ _ (1) _ _ _ (by first | rfl | omega | (simp; done)) o_g0_w14 nd_g0 (by omega) (by omega)).mono ?_
  rintro e w15 ⟨rfl, p2_g0, htw15⟩
  have bw15 := htw15.below bw14 bw14.size (fun g hg => by have h9 := (lt_g0.out g hg).1; have := zw1; have := zw2; have := zw3; have := zw4; have := zw5; have := zw6; have := zw7; have := zw8; have := zw9; have := zw10; have := zw11; have := zw12; have := zw13; have := zw14; omega)
  have sw15 := htw15.below sw14 sw14.size (fun g hg => by have h9 := (lt_g0.out g hg).1; have := zw1; have := zw2; have := zw3; have := zw4; have := zw5; have := zw6; have := zw7; have := zw8; have := zw9; have := zw10; have := zw11; have := zw12; have := zw13; have := zw14; omega)
  have zw15 := htw15.size
  have hqq : ¬ (((1 + Sh.cnt (.sl .u8) D0 : Nat) : Int) < 0) := by omega
  have hmm : ((((1 + Sh.cnt (.sl .u8) D0 : Nat) : Int)) != (((1 + Sh.cnt (.sl .u8) D0 : Nat) : Int))) = false := by simp
  go_wp2_with fail
  refine (heldByteS_v _ _ _ (1) _ _ _ (by first | rfl | omega | (simp; done)) p2_g0 nd_g0 (by omega) (by omega)).mono ?_
  rintro e w16 ⟨rfl, hbw16⟩
  have bw16 := bw15.trans (hbw16.mono bw15.size)
  have sw16 := sw15.trans (hbw16.mono sw15.size)
  have o_g0_w16 := p2_g0.later hbw16
  have zw16 := hbw16.size
  go_wp2_with fail
  refine (qto0.out _ bw16 HZ0.out).mono ?_
  rintro e w17 ⟨u_h0, F_h0, rfl, p_h0, nd_h0, hbw17⟩
  have bw17 := bw16.trans (hbw17.mono bw16.size)
  have sw17 := sw16.trans (hbw17.mono sw16.size)
  have o_g0_w17 := o_g0_w16.later hbw17
  have zw17 := hbw17.size
  have lt_h0 : Hid (∀ g ∈ F_h0, w16.heap.size ≤ g ∧ g < w17.heap.size) := p_h0.lt
  go_wp2_with fail
  refine (qto1.out _ bw17 HZ1.out).mono ?_
  rintro e w18 ⟨u_h1, F_h1, rfl, p_h1, nd_h1, hbw18⟩
  have bw18 := bw17.trans (hbw18.mono bw17.size)
  have sw18 := sw17.trans (hbw18.mono sw17.size)
  have o_g0_w18 := o_g0_w17.later hbw18
  have o_h0_w18 := p_h0.later hbw18
  have zw18 := hbw18.size
  have lt_h1 : Hid (∀ g ∈ F_h1, w17.heap.size ≤ g ∧ g < w18.heap.size) := p_h1.lt
  go_wp2_with fail
  refine (qI.out _ _ _ _ _ (o_h0_w18.base (Nat.zero_le _)) (p_h1.base (Nat.zero_le _)) HZ0.out HZ1.out).mono ?_
  rintro e w19 ⟨k0, F_k0, rfl, p_k0, nd_k0, hbw19⟩
  have bw19 := bw18.trans (hbw19.mono bw18.size)
  have sw19 := sw18.trans (hbw19.mono sw18.size)
  have o_g0_w19 := o_g0_w18.later hbw19
  have o_h0_w19 := o_h0_w18.later hbw19
  have o_h1_w19 := p_h1.later hbw19
  have zw19 := hbw19.size
  have lt_k0 : Hid (∀ g ∈ F_k0, w18.heap.size ≤ g ∧ g < w19.heap.size) := p_k0.lt
  go_wp2_with fail
  refine (eqByteS_v _ _ _ _ p_k0.reads (RW0.out.later sw19) hD0'.out.1).mono ?_
  rintro e w20 ⟨rfl, hbw20⟩
  have bw20 := bw19.trans (hbw20.mono bw19.size)
  have sw20 := sw19.trans (hbw20.mono sw19.size)
  have o_g0_w20 := o_g0_w19.later hbw20
  have o_h0_w20 := o_h0_w19.later hbw20
  have o_h1_w20 := o_h1_w19.later hbw20
  have o_k0_w20 := p_k0.later hbw20
  have zw20 := hbw20.size
  go_wp2_with fail
  refine (heldByteS_v _ _ _ (1) _ _ _ (by first | rfl | omega | (simp; done)) o_g0_w20 nd_g0 (by omega) (by omega)).mono ?_
  rintro e w21 ⟨rfl, hbw21⟩
  have bw21 := bw20.trans (hbw21.mono bw20.size)
  have sw21 := sw20.trans (hbw21.mono sw20.size)
  have o_g0_w21 := o_g0_w20.later hbw21
  have o_h0_w21 := o_h0_w20.later hbw21
  have o_h1_w21 := o_h1_w20.later hbw21
  have o_k0_w21 := o_k0_w20.later hbw21
  have zw21 := hbw21.size
  go_wp2
  go_ret
  exact ⟨rfl, bw21⟩

end Go.Proofs.Ytgldgfloamjooaa
