/-
  The walk of the law FnExactEmitCost over the contracts of its two functions. By program (lawgen3.py).
-/
import Derived.Test.YtcchjcllkfaadaaDoorMkB
import Derived.Test.YtcchjcllkfaadaaDoorVB
namespace Go.Proofs.YtcchjcllkfaadaaDoor
open Go.RowKit
set_option linter.unusedVariables false

set_option maxRecDepth 100000 in
set_option maxHeartbeats 8000000 in
theorem emitCost_over (v0 : Value) (d0 : List Int) (V0 : Int) (w : World) (hr0 : Reads (.sl .u8) w [v0] d0)
    (hcd0 : d0.length ≤ 1048576 → Sh.cnt (.sl .u8) d0 ≤ 1000000000)
    (hS : ∀ w' c0 G0, Own (.sl .u8) w' 0 [c0] d0 G0 → d0.length ≤ 1048576 → Below w.heap.size w w' → Calls Tryd.prog 10 #[c0] w' fun e w'' => e = .returned (.int .i64 V0) ∧ Below w'.heap.size w' w'')
    (hI : ∀ w' c0 G0, Own (.sl .u8) w' 0 [c0] d0 G0 → d0.length ≤ 1048576 → Below w.heap.size w w' → Calls Tryd.prog 12 #[c0] w' fun e w'' => e = .returned (.int .i64 V0) ∧ Below w'.heap.size w' w'') :
    Calls Tryd.prog 4 #[v0] w fun e w' => e = .returned (.bool true) ∧ Below w.heap.size w w' := by
  have qto0 : Hid (∀ w', Below w.heap.size w w' → d0.length ≤ 1048576 → Calls Tryd.prog 11 #[v0] w' fun e w'' => ∃ v' F, e = .returned v' ∧ Own (.sl .u8) w'' w'.heap.size [v'] d0 F ∧ F.Nodup ∧ Below w'.heap.size w' w'') := fun w' h' hs => toByteS_v v0 d0 w' (hr0.later h') hs
  have qeq0 : Hid (∀ w' c1 c2, Reads (.sl .u8) w' [c1] d0 → Reads (.sl .u8) w' [c2] d0 → d0.length ≤ 1048576 → Calls Tryd.prog 7 #[c1, c2] w' fun e w'' => e = .returned (.bool true) ∧ Below w'.heap.size w' w'') := fun w' c1 c2 h1 h2 hs => eqByteS_v c1 c2 d0 w' h1 h2 (by omega)
  obtain ⟨a0, cp0, e0', _, hm0⟩ := reads_val hr0
  have e0 : v0 = .slice a0 d0.length cp0 := e0'
  clear e0'
  obtain ⟨L0, hL0⟩ : ∃ L, L = d0.length := ⟨_, rfl⟩
  rw [← hL0] at e0
  unfold maxLen at hm0
  have qS : Hid (∀ w' c0 G0, Own (.sl .u8) w' 0 [c0] d0 G0 → d0.length ≤ 1048576 → Below w.heap.size w w' → Calls Tryd.prog 10 #[c0] w' fun e w'' => e = .returned (.int .i64 V0) ∧ Below w'.heap.size w' w'') := hS
  have qI : Hid (∀ w' c0 G0, Own (.sl .u8) w' 0 [c0] d0 G0 → d0.length ≤ 1048576 → Below w.heap.size w w' → Calls Tryd.prog 12 #[c0] w' fun e w'' => e = .returned (.int .i64 V0) ∧ Below w'.heap.size w' w'') := hI
  have qcd0 : Hid (d0.length ≤ 1048576 → Sh.cnt (.sl .u8) d0 ≤ 1000000000) := hcd0
  have hne0 : (V0 != V0) = false := by simp
  clear hS hI hr0 hcd0
  subst e0
  have HL0 : Hid (L0 = d0.length) := hL0
  clear hL0
  by_cases hs0 : L0 ≤ 1048576
  case neg =>
    have ht : (1048576 : Int) < (L0 : Int) := by omega
    go_enter Tryd.func4, Tryd.ntmps4
    go_wp2
    go_ret
    exact ⟨rfl, Below.refl _ _⟩
  have ht0 : ¬ (1048576 : Int) < (L0 : Int) := by omega
  go_enter Tryd.func4, Tryd.ntmps4
  have HZ0 : Hid (d0.length ≤ 1048576) := by show d0.length ≤ 1048576; rw [← HL0.out]; omega
  have hcc0 := qcd0.out HZ0.out
  go_wp2_with fail
  refine (qto0.out _ (Below.refl w.heap.size w) HZ0.out).mono ?_
  rintro e w1 ⟨u_y0, F_y0, rfl, p_y0, nd_y0, hbw1⟩
  have zw1 : w.heap.size ≤ w1.heap.size := hbw1.size
  have bw1 := (Below.refl w.heap.size w).trans (hbw1.mono (Below.refl w.heap.size w).size)
  clear hbw1
  have lt_y0 : Hid (∀ g ∈ F_y0, w.heap.size ≤ g ∧ g < w1.heap.size) := p_y0.lt
  go_wp2_with fail
  refine (qS.out _ _ _ (p_y0.base (Nat.zero_le _)) HZ0.out bw1).mono ?_
  rintro e w2 ⟨rfl, hbw2⟩
  have zw2 : w1.heap.size ≤ w2.heap.size := hbw2.size
  have bw2 := bw1.trans (hbw2.mono bw1.size)
  clear bw1
  have o_y0_w2 := p_y0.later hbw2
  clear p_y0
  clear hbw2
  have sw2 : Below w2.heap.size w2 w2 := Below.refl _ _
  clear o_y0_w2 nd_y0 lt_y0
  go_wp2_with fail
  refine (qto0.out _ bw2 HZ0.out).mono ?_
  rintro e w3 ⟨u_x0, F_x0, rfl, p_x0, nd_x0, hbw3⟩
  have zw3 : w2.heap.size ≤ w3.heap.size := hbw3.size
  have bw3 := bw2.trans (hbw3.mono bw2.size)
  clear bw2
  have sw3 := sw2.trans (hbw3.mono sw2.size)
  clear sw2
  clear hbw3
  have lt_x0 : Hid (∀ g ∈ F_x0, w2.heap.size ≤ g ∧ g < w3.heap.size) := p_x0.lt
  go_wp2_with fail
  refine (qI.out _ _ _ (p_x0.base (Nat.zero_le _)) HZ0.out bw3).mono ?_
  rintro e w4 ⟨rfl, hbw4⟩
  have zw4 : w3.heap.size ≤ w4.heap.size := hbw4.size
  have bw4 := bw3.trans (hbw4.mono bw3.size)
  clear bw3
  have sw4 := sw3.trans (hbw4.mono sw3.size)
  clear sw3
  have o_x0_w4 := p_x0.later hbw4
  clear p_x0
  clear hbw4
  go_wp2_with fail
  refine (qto0.out _ bw4 HZ0.out).mono ?_
  rintro e w5 ⟨u_t0, F_t0, rfl, p_t0, nd_t0, hbw5⟩
  have zw5 : w4.heap.size ≤ w5.heap.size := hbw5.size
  have bw5 := bw4.trans (hbw5.mono bw4.size)
  clear bw4
  have sw5 := sw4.trans (hbw5.mono sw4.size)
  clear sw4
  have o_x0_w5 := o_x0_w4.later hbw5
  clear o_x0_w4
  clear hbw5
  have lt_t0 : Hid (∀ g ∈ F_t0, w4.heap.size ≤ g ∧ g < w5.heap.size) := p_t0.lt
  go_wp2_with fail
  refine (qeq0.out _ _ _ o_x0_w5.reads p_t0.reads HZ0.out).mono ?_
  rintro e w6 ⟨rfl, hbw6⟩
  have zw6 : w5.heap.size ≤ w6.heap.size := hbw6.size
  have bw6 := bw5.trans (hbw6.mono bw5.size)
  clear bw5
  have sw6 := sw5.trans (hbw6.mono sw5.size)
  clear sw5
  have o_x0_w6 := o_x0_w5.later hbw6
  clear o_x0_w5
  have o_t0_w6 := p_t0.later hbw6
  clear p_t0
  clear hbw6
  clear o_t0_w6 nd_t0 lt_t0
  go_wp2
  go_ret
  exact ⟨rfl, bw6⟩

end Go.Proofs.YtcchjcllkfaadaaDoor
