/-
  The walk of the law FnExactTearSteps over the contracts of its two functions. By program (lawgen2.py).
-/
import Derived.Test.YtgldgfloamjooaaVB
namespace Go.Proofs.Ytgldgfloamjooaa
open Go.RowKit
set_option linter.unusedVariables false

set_option maxRecDepth 100000 in
set_option maxHeartbeats 4000000 in
theorem tearSteps_over (v0 : Value) (d0 : List Int) (v1 : Value) (d1 : List Int) (V0 : Int) (w : World) (hr0 : Reads (.sl .u8) w [v0] d0) (hr1 : Reads (.sl .u8) w [v1] d1)
    (hS : ∀ w' c0 G0 c1 G1, Own (.sl .u8) w' 0 [c0] d0 G0 → Own (.sl .u8) w' 0 [c1] d1 G1 → d0.length ≤ 1048576 → d1.length ≤ 1048576 → Calls Try.prog 11 #[c0, c1] w' fun e w'' => e = .returned (.int .i64 V0) ∧ Below w'.heap.size w' w'')
    (hI : ∀ w' c0 G0 c1 G1, Own (.sl .u8) w' 0 [c0] d0 G0 → Own (.sl .u8) w' 0 [c1] d1 G1 → d0.length ≤ 1048576 → d1.length ≤ 1048576 → Calls Try.prog 8 #[c0, c1] w' fun e w'' => e = .returned (.int .i64 V0) ∧ Below w'.heap.size w' w'') :
    Calls Try.prog 4 #[v0, v1] w fun e w' => e = .returned (.bool true) ∧ Below w.heap.size w w' := by
  have qto0 : Hid (∀ w', Below w.heap.size w w' → d0.length ≤ 1048576 → Calls Try.prog 12 #[v0] w' fun e w'' => ∃ v' F, e = .returned v' ∧ Own (.sl .u8) w'' w'.heap.size [v'] d0 F ∧ F.Nodup ∧ Below w'.heap.size w' w'') := fun w' h' hs => toByteS_v v0 d0 w' (hr0.later h') hs
  have hc0 : Hid (d0.length ≤ 1048576 → Sh.cnt (.sl .u8) d0 ≤ 100000000) := fun hs => by have := cnt_le (.sl .u8) d0; rw [cnt_byteS]; omega
  obtain ⟨a0, cp0, e0', _, hm0⟩ := reads_val hr0
  have e0 : v0 = .slice a0 d0.length cp0 := e0'
  clear e0'
  obtain ⟨L0, hL0⟩ : ∃ L, L = d0.length := ⟨_, rfl⟩
  rw [← hL0] at e0
  unfold maxLen at hm0
  have qto1 : Hid (∀ w', Below w.heap.size w w' → d1.length ≤ 1048576 → Calls Try.prog 12 #[v1] w' fun e w'' => ∃ v' F, e = .returned v' ∧ Own (.sl .u8) w'' w'.heap.size [v'] d1 F ∧ F.Nodup ∧ Below w'.heap.size w' w'') := fun w' h' hs => toByteS_v v1 d1 w' (hr1.later h') hs
  have hc1 : Hid (d1.length ≤ 1048576 → Sh.cnt (.sl .u8) d1 ≤ 100000000) := fun hs => by have := cnt_le (.sl .u8) d1; rw [cnt_byteS]; omega
  obtain ⟨a1, cp1, e1', _, hm1⟩ := reads_val hr1
  have e1 : v1 = .slice a1 d1.length cp1 := e1'
  clear e1'
  obtain ⟨L1, hL1⟩ : ∃ L, L = d1.length := ⟨_, rfl⟩
  rw [← hL1] at e1
  unfold maxLen at hm1
  have qS : Hid (∀ w' c0 G0 c1 G1, Own (.sl .u8) w' 0 [c0] d0 G0 → Own (.sl .u8) w' 0 [c1] d1 G1 → d0.length ≤ 1048576 → d1.length ≤ 1048576 → Calls Try.prog 11 #[c0, c1] w' fun e w'' => e = .returned (.int .i64 V0) ∧ Below w'.heap.size w' w'') := hS
  have qI : Hid (∀ w' c0 G0 c1 G1, Own (.sl .u8) w' 0 [c0] d0 G0 → Own (.sl .u8) w' 0 [c1] d1 G1 → d0.length ≤ 1048576 → d1.length ≤ 1048576 → Calls Try.prog 8 #[c0, c1] w' fun e w'' => e = .returned (.int .i64 V0) ∧ Below w'.heap.size w' w'') := hI
  have hne0 : (V0 != V0) = false := by simp
  clear hS hI hr0 hr1
  by_cases hs0 : L0 ≤ 1048576
  case neg =>
    have ht : (1048576 : Int) < (L0 : Int) := by omega
    subst e0
    subst e1
    go_enter Try.func4, Try.ntmps4
    go_wp2
    go_ret
    exact ⟨rfl, Below.refl _ _⟩
  by_cases hs1 : L1 ≤ 1048576
  case neg =>
    have ht : (1048576 : Int) < (L1 : Int) := by omega
    have ht0 : ¬ (1048576 : Int) < (L0 : Int) := by omega
    subst e0
    subst e1
    go_enter Try.func4, Try.ntmps4
    go_wp2
    go_ret
    exact ⟨rfl, Below.refl _ _⟩
  have ht0 : ¬ (1048576 : Int) < (L0 : Int) := by omega
  have ht1 : ¬ (1048576 : Int) < (L1 : Int) := by omega
  have hz0 : d0.length ≤ 1048576 := by omega
  subst e0
  have hz1 : d1.length ≤ 1048576 := by omega
  subst e1
  have hC0 := hc0.out hz0
  have HZ0 : Hid (d0.length ≤ 1048576) := hz0
  clear hz0 hL0
  have hC1 := hc1.out hz1
  have HZ1 : Hid (d1.length ≤ 1048576) := hz1
  clear hz1 hL1
  go_enter Try.func4, Try.ntmps4
  go_wp2_with fail
  refine (qto0.out _ (Below.refl w.heap.size w) HZ0.out).mono ?_
  rintro e w1 ⟨u_y0, F_y0, rfl, p_y0, nd_y0, hbw1⟩
  have bw1 := (Below.refl w.heap.size w).trans (hbw1.mono (Below.refl w.heap.size w).size)
  have zw1 := hbw1.size
  have lt_y0 : Hid (∀ g ∈ F_y0, w.heap.size ≤ g ∧ g < w1.heap.size) := p_y0.lt
  go_wp2_with fail
  refine (qto1.out _ bw1 HZ1.out).mono ?_
  rintro e w2 ⟨u_y1, F_y1, rfl, p_y1, nd_y1, hbw2⟩
  have bw2 := bw1.trans (hbw2.mono bw1.size)
  have o_y0_w2 := p_y0.later hbw2
  have zw2 := hbw2.size
  have lt_y1 : Hid (∀ g ∈ F_y1, w1.heap.size ≤ g ∧ g < w2.heap.size) := p_y1.lt
  go_wp2_with fail
  refine (qS.out _ _ _ _ _ (o_y0_w2.base (Nat.zero_le _)) (p_y1.base (Nat.zero_le _)) HZ0.out HZ1.out).mono ?_
  rintro e w3 ⟨rfl, hbw3⟩
  have bw3 := bw2.trans (hbw3.mono bw2.size)
  have o_y0_w3 := o_y0_w2.later hbw3
  have o_y1_w3 := p_y1.later hbw3
  have zw3 := hbw3.size
  clear nd_y0
  clear nd_y1
  have sw3 : Below w3.heap.size w3 w3 := Below.refl _ _
  go_wp2_with fail
  refine (qto0.out _ bw3 HZ0.out).mono ?_
  rintro e w4 ⟨u_x0, F_x0, rfl, p_x0, nd_x0, hbw4⟩
  have bw4 := bw3.trans (hbw4.mono bw3.size)
  have sw4 := sw3.trans (hbw4.mono sw3.size)
  have zw4 := hbw4.size
  have lt_x0 : Hid (∀ g ∈ F_x0, w3.heap.size ≤ g ∧ g < w4.heap.size) := p_x0.lt
  go_wp2_with fail
  refine (qto1.out _ bw4 HZ1.out).mono ?_
  rintro e w5 ⟨u_x1, F_x1, rfl, p_x1, nd_x1, hbw5⟩
  have bw5 := bw4.trans (hbw5.mono bw4.size)
  have sw5 := sw4.trans (hbw5.mono sw4.size)
  have o_x0_w5 := p_x0.later hbw5
  have zw5 := hbw5.size
  have lt_x1 : Hid (∀ g ∈ F_x1, w4.heap.size ≤ g ∧ g < w5.heap.size) := p_x1.lt
  go_wp2_with fail
  refine (qI.out _ _ _ _ _ (o_x0_w5.base (Nat.zero_le _)) (p_x1.base (Nat.zero_le _)) HZ0.out HZ1.out).mono ?_
  rintro e w6 ⟨rfl, hbw6⟩
  have bw6 := bw5.trans (hbw6.mono bw5.size)
  have sw6 := sw5.trans (hbw6.mono sw5.size)
  have o_x0_w6 := o_x0_w5.later hbw6
  have o_x1_w6 := p_x1.later hbw6
  have zw6 := hbw6.size
  go_wp2_with fail
  refine (qto0.out _ bw6 HZ0.out).mono ?_
  rintro e w7 ⟨u_t0, F_t0, rfl, p_t0, nd_t0, hbw7⟩
  have bw7 := bw6.trans (hbw7.mono bw6.size)
  have sw7 := sw6.trans (hbw7.mono sw6.size)
  have o_x0_w7 := o_x0_w6.later hbw7
  have o_x1_w7 := o_x1_w6.later hbw7
  have zw7 := hbw7.size
  have lt_t0 : Hid (∀ g ∈ F_t0, w6.heap.size ≤ g ∧ g < w7.heap.size) := p_t0.lt
  go_wp2_with fail
  refine (eqByteS_v _ _ _ _ o_x0_w7.reads p_t0.reads (by have := HZ0.out; omega)).mono ?_
  rintro e w8 ⟨rfl, hbw8⟩
  have bw8 := bw7.trans (hbw8.mono bw7.size)
  have sw8 := sw7.trans (hbw8.mono sw7.size)
  have o_x0_w8 := o_x0_w7.later hbw8
  have o_x1_w8 := o_x1_w7.later hbw8
  have o_t0_w8 := p_t0.later hbw8
  have zw8 := hbw8.size
  go_wp2_with fail
  refine (qto1.out _ bw8 HZ1.out).mono ?_
  rintro e w9 ⟨u_t1, F_t1, rfl, p_t1, nd_t1, hbw9⟩
  have bw9 := bw8.trans (hbw9.mono bw8.size)
  have sw9 := sw8.trans (hbw9.mono sw8.size)
  have o_x0_w9 := o_x0_w8.later hbw9
  have o_x1_w9 := o_x1_w8.later hbw9
  have zw9 := hbw9.size
  have lt_t1 : Hid (∀ g ∈ F_t1, w8.heap.size ≤ g ∧ g < w9.heap.size) := p_t1.lt
  go_wp2_with fail
  refine (eqByteS_v _ _ _ _ o_x1_w9.reads p_t1.reads (by have := HZ1.out; omega)).mono ?_
  rintro e w10 ⟨rfl, hbw10⟩
  have bw10 := bw9.trans (hbw10.mono bw9.size)
  have sw10 := sw9.trans (hbw10.mono sw9.size)
  have o_x0_w10 := o_x0_w9.later hbw10
  have o_x1_w10 := o_x1_w9.later hbw10
  have o_t1_w10 := p_t1.later hbw10
  have zw10 := hbw10.size
  go_wp2
  go_ret
  exact ⟨rfl, bw10⟩

end Go.Proofs.Ytgldgfloamjooaa
