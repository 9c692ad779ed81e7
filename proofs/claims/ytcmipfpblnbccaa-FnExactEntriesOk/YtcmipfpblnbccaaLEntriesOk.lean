/-
  The walk of the law FnExactEntriesOk over the contracts of its two functions. By program (lawgen3.py).
-/
import Derived.Test.YtcmipfpblnbccaaVEntry
namespace Go.Proofs.Ytcmipfpblnbccaa
open Go.RowKit
set_option linter.unusedVariables false

set_option maxRecDepth 100000 in
set_option maxHeartbeats 8000000 in
theorem entriesOk_over (v0 : Value) (d0 : List shEntry.D) (V0 : Bool) (w : World) (hr0 : Reads (.sl shEntry) w [v0] d0)
    (hcd0 : Sh.sz (.sl shEntry) d0 ≤ 1048576 → Sh.cnt (.sl shEntry) d0 ≤ 1000000000)
    (hS : ∀ w' c0 G0, Own (.sl shEntry) w' 0 [c0] d0 G0 → Sh.sz (.sl shEntry) d0 ≤ 1048576 → Calls Try.prog 13 #[c0] w' fun e w'' => e = .returned (.bool V0) ∧ Below w'.heap.size w' w'')
    (hI : ∀ w' c0 G0, Own (.sl shEntry) w' 0 [c0] d0 G0 → Sh.sz (.sl shEntry) d0 ≤ 1048576 → Calls Try.prog 15 #[c0] w' fun e w'' => e = .returned (.bool V0) ∧ Below w'.heap.size w' w'') :
    Calls Try.prog 4 #[v0] w fun e w' => e = .returned (.bool true) ∧ Below w.heap.size w w' := by
  have qto0 : Hid (∀ w', Below w.heap.size w w' → Sh.sz (.sl shEntry) d0 ≤ 1048576 → Calls Try.prog 14 #[v0] w' fun e w'' => ∃ v' F, e = .returned v' ∧ Own (.sl shEntry) w'' w'.heap.size [v'] d0 F ∧ F.Nodup ∧ Below w'.heap.size w' w'') := fun w' h' hs => toEntryS_v v0 d0 w' (hr0.later h') hs
  have qeq0 : Hid (∀ w' c1 c2, Reads (.sl shEntry) w' [c1] d0 → Reads (.sl shEntry) w' [c2] d0 → Sh.sz (.sl shEntry) d0 ≤ 1048576 → Calls Try.prog 16 #[c1, c2] w' fun e w'' => e = .returned (.bool true) ∧ Below w'.heap.size w' w'') := fun w' c1 c2 h1 h2 hs => eqEntryS_v c1 c2 d0 w' h1 h2 (by omega)
  obtain ⟨a0, cp0, e0', _, hm0⟩ := reads_val hr0
  have e0 : v0 = .slice a0 d0.length cp0 := e0'
  clear e0'
  obtain ⟨L0, hL0⟩ : ∃ L, L = d0.length := ⟨_, rfl⟩
  rw [← hL0] at e0
  unfold maxLen at hm0
  have qsz0 : Hid (∀ w' left, Below w.heap.size w w' → 0 ≤ left → left ≤ 1048576 → Calls Try.prog 12 #[v0, .int .i64 left] w' fun e w'' => e = .returned (.int .i64 (szAns (Sh.sz (.sl shEntry) d0) left)) ∧ Below w'.heap.size w' w'') := fun w' left h' h1 h2 => szEntryS_v v0 d0 left w' (hr0.later h') h1 h2
  have qS : Hid (∀ w' c0 G0, Own (.sl shEntry) w' 0 [c0] d0 G0 → Sh.sz (.sl shEntry) d0 ≤ 1048576 → Calls Try.prog 13 #[c0] w' fun e w'' => e = .returned (.bool V0) ∧ Below w'.heap.size w' w'') := hS
  have qI : Hid (∀ w' c0 G0, Own (.sl shEntry) w' 0 [c0] d0 G0 → Sh.sz (.sl shEntry) d0 ≤ 1048576 → Calls Try.prog 15 #[c0] w' fun e w'' => e = .returned (.bool V0) ∧ Below w'.heap.size w' w'') := hI
  have qcd0 : Hid (Sh.sz (.sl shEntry) d0 ≤ 1048576 → Sh.cnt (.sl shEntry) d0 ≤ 1000000000) := hcd0
  have hne0 : (V0 != V0) = false := by cases V0 <;> rfl
  obtain ⟨K0, hK0⟩ : ∃ K, K = Sh.sz (.sl shEntry) d0 := ⟨_, rfl⟩
  rw [← hK0] at qsz0
  have HK0 : Hid (K0 = Sh.sz (.sl shEntry) d0) := hK0
  clear hK0 hL0
  clear hS hI hr0 hcd0
  subst e0
  go_enter Try.func4, Try.ntmps4
  go_wp2_with fail
  refine (qsz0.out _ (1048576) (Below.refl w.heap.size w) (by omega) (by omega)).mono ?_
  rintro e w1 ⟨rfl, hbw1⟩
  have zw1 : w.heap.size ≤ w1.heap.size := hbw1.size
  have bw1 := (Below.refl w.heap.size w).trans (hbw1.mono (Below.refl w.heap.size w).size)
  clear hbw1
  by_cases hk0 : ((K0 : Nat) : Int) ≤ 1048576
  case neg =>
    rw [szAns_no hk0]
    go_wp2
    go_ret
    exact ⟨rfl, bw1⟩
  rw [szAns_yes hk0]
  have hl0 : ¬ (1048576 - ((K0 : Nat) : Int) < 0) := by omega
  have HZ0 : Hid (Sh.sz (.sl shEntry) d0 ≤ 1048576) := by show Sh.sz (.sl shEntry) d0 ≤ 1048576; rw [← HK0.out]; omega
  have hcc0 := qcd0.out HZ0.out
  go_wp2_with fail
  refine (qto0.out _ bw1 HZ0.out).mono ?_
  rintro e w2 ⟨u_y0, F_y0, rfl, p_y0, nd_y0, hbw2⟩
  have zw2 : w1.heap.size ≤ w2.heap.size := hbw2.size
  have bw2 := bw1.trans (hbw2.mono bw1.size)
  clear bw1
  clear hbw2
  have lt_y0 : Hid (∀ g ∈ F_y0, w1.heap.size ≤ g ∧ g < w2.heap.size) := p_y0.lt
  go_wp2_with fail
  refine (qS.out _ _ _ (p_y0.base (Nat.zero_le _)) HZ0.out).mono ?_
  rintro e w3 ⟨rfl, hbw3⟩
  have zw3 : w2.heap.size ≤ w3.heap.size := hbw3.size
  have bw3 := bw2.trans (hbw3.mono bw2.size)
  clear bw2
  have o_y0_w3 := p_y0.later hbw3
  clear p_y0
  clear hbw3
  have sw3 : Below w3.heap.size w3 w3 := Below.refl _ _
  clear o_y0_w3 nd_y0 lt_y0
  go_wp2_with fail
  refine (qto0.out _ bw3 HZ0.out).mono ?_
  rintro e w4 ⟨u_x0, F_x0, rfl, p_x0, nd_x0, hbw4⟩
  have zw4 : w3.heap.size ≤ w4.heap.size := hbw4.size
  have bw4 := bw3.trans (hbw4.mono bw3.size)
  clear bw3
  have sw4 := sw3.trans (hbw4.mono sw3.size)
  clear sw3
  clear hbw4
  have lt_x0 : Hid (∀ g ∈ F_x0, w3.heap.size ≤ g ∧ g < w4.heap.size) := p_x0.lt
  go_wp2_with fail
  refine (qI.out _ _ _ (p_x0.base (Nat.zero_le _)) HZ0.out).mono ?_
  rintro e w5 ⟨rfl, hbw5⟩
  have zw5 : w4.heap.size ≤ w5.heap.size := hbw5.size
  have bw5 := bw4.trans (hbw5.mono bw4.size)
  clear bw4
  have sw5 := sw4.trans (hbw5.mono sw4.size)
  clear sw4
  have o_x0_w5 := p_x0.later hbw5
  clear p_x0
  clear hbw5
  go_wp2_with fail
  refine (qto0.out _ bw5 HZ0.out).mono ?_
  rintro e w6 ⟨u_t0, F_t0, rfl, p_t0, nd_t0, hbw6⟩
  have zw6 : w5.heap.size ≤ w6.heap.size := hbw6.size
  have bw6 := bw5.trans (hbw6.mono bw5.size)
  clear bw5
  have sw6 := sw5.trans (hbw6.mono sw5.size)
  clear sw5
  have o_x0_w6 := o_x0_w5.later hbw6
  clear o_x0_w5
  clear hbw6
  have lt_t0 : Hid (∀ g ∈ F_t0, w5.heap.size ≤ g ∧ g < w6.heap.size) := p_t0.lt
  go_wp2_with fail
  refine (qeq0.out _ _ _ o_x0_w6.reads p_t0.reads HZ0.out).mono ?_
  rintro e w7 ⟨rfl, hbw7⟩
  have zw7 : w6.heap.size ≤ w7.heap.size := hbw7.size
  have bw7 := bw6.trans (hbw7.mono bw6.size)
  clear bw6
  have sw7 := sw6.trans (hbw7.mono sw6.size)
  clear sw6
  have o_x0_w7 := o_x0_w6.later hbw7
  clear o_x0_w6
  have o_t0_w7 := p_t0.later hbw7
  clear p_t0
  clear hbw7
  clear o_t0_w7 nd_t0 lt_t0
  go_wp2
  go_ret
  exact ⟨rfl, bw7⟩

end Go.Proofs.Ytcmipfpblnbccaa
