/-
  The walk of the law FnExactFrameRead over the contracts of its two functions. By program (lawgen3.py).
-/
import Derived.Test.YtbjmjmammpgbmaaTyEntry
import Derived.Test.YtbjmjmammpgbmaaVEntry
import Derived.Test.YtbjmjmammpgbmaaVB
namespace Go.Proofs.Ytbjmjmammpgbmaa
open Go.RowKit
set_option linter.unusedVariables false

set_option maxRecDepth 100000 in
set_option maxHeartbeats 8000000 in
theorem frameRead_over (v0 : Value) (d0 : List Int) (n1 : Int) (D0 : shEntry.D) (V1 : Int) (V2 : Int) (w : World) (hr0 : Reads (.sl .u8) w [v0] d0) (hD0 : shEntry.sz D0 ≤ 1048576) (hC0 : shEntry.cntV D0 ≤ 1000000000)
    (hcd0 : d0.length ≤ 1048576 → Sh.cnt (.sl .u8) d0 ≤ 1000000000)
    (hS : ∀ w' c0 G0, Own (.sl .u8) w' 0 [c0] d0 G0 → d0.length ≤ 1048576 → Calls Try.prog 16 #[c0, .int .i64 n1] w' fun e w'' => ∃ o0, e = .returned (.tuple #[.agg o0.toArray, .int .i64 V1, .int .i64 V2]) ∧ Reads shEntry w'' o0 D0 ∧ Below w'.heap.size w' w'')
    (hI : ∀ w' c0 G0, Own (.sl .u8) w' 0 [c0] d0 G0 → d0.length ≤ 1048576 → Calls Try.prog 15 #[c0, .int .i64 n1] w' fun e w'' => ∃ o0 F0, e = .returned (.tuple #[.agg o0.toArray, .int .i64 V1, .int .i64 V2]) ∧ Own shEntry w'' w'.heap.size o0 D0 F0 ∧ F0.Nodup ∧ Below w'.heap.size w' w'') :
    Calls Try.prog 5 #[v0, .int .i64 n1] w fun e w' => e = .returned (.bool true) ∧ Below w.heap.size w w' := by
  have qto0 : Hid (∀ w', Below w.heap.size w w' → d0.length ≤ 1048576 → Calls Try.prog 17 #[v0] w' fun e w'' => ∃ v' F, e = .returned v' ∧ Own (.sl .u8) w'' w'.heap.size [v'] d0 F ∧ F.Nodup ∧ Below w'.heap.size w' w'') := fun w' h' hs => toByteS_v v0 d0 w' (hr0.later h') hs
  have qeq0 : Hid (∀ w' c1 c2, Reads (.sl .u8) w' [c1] d0 → Reads (.sl .u8) w' [c2] d0 → d0.length ≤ 1048576 → Calls Try.prog 19 #[c1, c2] w' fun e w'' => e = .returned (.bool true) ∧ Below w'.heap.size w' w'') := fun w' c1 c2 h1 h2 hs => eqByteS_v c1 c2 d0 w' h1 h2 (by omega)
  obtain ⟨a0, cp0, e0', _, hm0⟩ := reads_val hr0
  have e0 : v0 = .slice a0 d0.length cp0 := e0'
  clear e0'
  obtain ⟨L0, hL0⟩ : ∃ L, L = d0.length := ⟨_, rfl⟩
  rw [← hL0] at e0
  unfold maxLen at hm0
  have qS : Hid (∀ w' c0 G0, Own (.sl .u8) w' 0 [c0] d0 G0 → d0.length ≤ 1048576 → Calls Try.prog 16 #[c0, .int .i64 n1] w' fun e w'' => ∃ o0, e = .returned (.tuple #[.agg o0.toArray, .int .i64 V1, .int .i64 V2]) ∧ Reads shEntry w'' o0 D0 ∧ Below w'.heap.size w' w'') := hS
  have qI : Hid (∀ w' c0 G0, Own (.sl .u8) w' 0 [c0] d0 G0 → d0.length ≤ 1048576 → Calls Try.prog 15 #[c0, .int .i64 n1] w' fun e w'' => ∃ o0 F0, e = .returned (.tuple #[.agg o0.toArray, .int .i64 V1, .int .i64 V2]) ∧ Own shEntry w'' w'.heap.size o0 D0 F0 ∧ F0.Nodup ∧ Below w'.heap.size w' w'') := hI
  have qcd0 : Hid (d0.length ≤ 1048576 → Sh.cnt (.sl .u8) d0 ≤ 1000000000) := hcd0
  have HD0 : Hid (_ ∧ _) := ⟨hD0, hC0⟩
  have hne1 : (V1 != V1) = false := by simp
  have hne2 : (V2 != V2) = false := by simp
  obtain ⟨xO0_0, eO0_0⟩ : ∃ x : Int, x = D0.1 := ⟨_, rfl⟩
  obtain ⟨xO0_1, eO0_1⟩ : ∃ x : ByteArray, x = D0.2.1 := ⟨_, rfl⟩
  have HEO0 : Hid (xO0_0 = D0.1 ∧ xO0_1 = D0.2.1 ∧ True ∧ True) := ⟨eO0_0, eO0_1, trivial, trivial⟩
  clear hS hI hr0 hcd0 hD0 hC0 eO0_0 eO0_1
  subst e0
  have HL0 : Hid (L0 = d0.length) := hL0
  clear hL0
  by_cases hs0 : L0 ≤ 1048576
  case neg =>
    have ht : (1048576 : Int) < (L0 : Int) := by omega
    go_enter Try.func5, Try.ntmps5
    go_wp2
    go_ret
    exact ⟨rfl, Below.refl _ _⟩
  have ht0 : ¬ (1048576 : Int) < (L0 : Int) := by omega
  go_enter Try.func5, Try.ntmps5
  have HZ0 : Hid (d0.length ≤ 1048576) := by show d0.length ≤ 1048576; rw [← HL0.out]; omega
  have hcc0 := qcd0.out HZ0.out
  go_wp2_with fail
  refine (qto0.out _ (Below.refl w.heap.size w) HZ0.out).mono ?_
  rintro e w1 ⟨u_y0, F_y0, rfl, p_y0, nd_y0, hbw1⟩
  have zw1 : w.heap.size ≤ w1.heap.size := hbw1.size
  have bw1 := (Below.refl w.heap.size w).trans (hbw1.mono (Below.refl w.heap.size w).size)
  clear hbw1
  have lt_y0 : Hid (∀ g ∈ F_y0, w.heap.size ≤ g ∧ g < w1.heap.size) := p_y0.lt
  go_wp2_with fail
  refine (qS.out _ _ _ (p_y0.base (Nat.zero_le _)) HZ0.out).mono ?_
  rintro e w2 ⟨W0, he_W, p_W0, hbw2⟩
  have RW0 : Hid (Reads shEntry w2 W0 D0) := p_W0
  have zw2 : w1.heap.size ≤ w2.heap.size := hbw2.size
  have bw2 := bw1.trans (hbw2.mono bw1.size)
  clear bw1
  have o_y0_w2 := p_y0.later hbw2
  clear p_y0
  clear hbw2
  have sw2 : Below w2.heap.size w2 w2 := Below.refl _ _
  obtain ⟨hq_W0, _⟩ := open_Entry p_W0
  rw [← HEO0.out.1, ← HEO0.out.2.1] at hq_W0
  subst hq_W0
  subst he_W
  clear p_W0
  clear o_y0_w2 nd_y0 lt_y0
  go_wp2_with fail
  obtain ⟨w3, hw3⟩ : ∃ W, W = w2.alloc (.cells #[.int .i64 xO0_0, .string xO0_1] 33) := ⟨_, rfl⟩
  have hbw3 : Below w2.heap.size w2 w3 := by rw [hw3]; exact (Below.refl _ _).alloc (Nat.le_refl _) _
  have i_W0_w3 : Hid (w3.heap[w2.heap.size]? = some (.cells #[.int .i64 xO0_0, .string xO0_1] 33 (0, 0))) := by show _ = _; rw [hw3]; exact heap_alloc_new w2 _
  have zzw3 : w3.heap.size = w2.heap.size + 1 := by rw [hw3]; simp
  rw [← hw3]
  clear hw3
  have zw3 : w2.heap.size ≤ w3.heap.size := hbw3.size
  have bw3 := bw2.trans (hbw3.mono bw2.size)
  clear bw2
  have sw3 := sw2.trans (hbw3.mono sw2.size)
  clear sw2
  clear hbw3
  refine (qto0.out _ bw3 HZ0.out).mono ?_
  rintro e w4 ⟨u_x0, F_x0, rfl, p_x0, nd_x0, hbw4⟩
  have zw4 : w3.heap.size ≤ w4.heap.size := hbw4.size
  have bw4 := bw3.trans (hbw4.mono bw3.size)
  clear bw3
  have sw4 := sw3.trans (hbw4.mono sw3.size)
  clear sw3
  have i_W0_w4 : Hid (w4.heap[w2.heap.size]? = some (.cells #[.int .i64 xO0_0, .string xO0_1] 33 (0, 0))) := (hbw4.block _ (by omega)).trans i_W0_w3.out
  clear i_W0_w3
  clear hbw4
  have lt_x0 : Hid (∀ g ∈ F_x0, w3.heap.size ≤ g ∧ g < w4.heap.size) := p_x0.lt
  go_wp2_with fail
  refine (qI.out _ _ _ (p_x0.base (Nat.zero_le _)) HZ0.out).mono ?_
  rintro e w5 ⟨g0, F_g0, he_g, p_g0, nd_g0, hbw5⟩
  have zw5 : w4.heap.size ≤ w5.heap.size := hbw5.size
  have bw5 := bw4.trans (hbw5.mono bw4.size)
  clear bw4
  have sw5 := sw4.trans (hbw5.mono sw4.size)
  clear sw4
  have o_x0_w5 := p_x0.later hbw5
  clear p_x0
  have i_W0_w5 : Hid (w5.heap[w2.heap.size]? = some (.cells #[.int .i64 xO0_0, .string xO0_1] 33 (0, 0))) := (hbw5.block _ (by omega)).trans i_W0_w4.out
  clear i_W0_w4
  clear hbw5
  have lt_g0 : Hid (∀ g ∈ F_g0, w4.heap.size ≤ g ∧ g < w5.heap.size) := p_g0.lt
  obtain ⟨hq_g0, _⟩ := open_Entry p_g0.reads
  rw [← HEO0.out.1, ← HEO0.out.2.1] at hq_g0
  subst hq_g0
  subst he_g
  have zl_W0 : w2.heap.size < w5.heap.size := by omega
  have y_W0_0 : w5.cell? ⟨w2.heap.size, 0, none⟩ = some (.int .i64 xO0_0) := box_cell i_W0_w5.out rfl
  have y_W0_1 : w5.cell? ⟨w2.heap.size, 1, none⟩ = some (.string xO0_1) := box_cell i_W0_w5.out rfl
  go_wp2_with fail
  clear zl_W0 y_W0_0 y_W0_1
  obtain ⟨w6, hw6⟩ : ∃ W, W = w5.alloc (.cells #[.int .i64 xO0_0, .string xO0_1] 33) := ⟨_, rfl⟩
  have hbw6 : Below w5.heap.size w5 w6 := by rw [hw6]; exact (Below.refl _ _).alloc (Nat.le_refl _) _
  have i_g0_w6 : Hid (w6.heap[w5.heap.size]? = some (.cells #[.int .i64 xO0_0, .string xO0_1] 33 (0, 0))) := by show _ = _; rw [hw6]; exact heap_alloc_new w5 _
  have zzw6 : w6.heap.size = w5.heap.size + 1 := by rw [hw6]; simp
  rw [← hw6]
  clear hw6
  have zw6 : w5.heap.size ≤ w6.heap.size := hbw6.size
  have bw6 := bw5.trans (hbw6.mono bw5.size)
  clear bw5
  have sw6 := sw5.trans (hbw6.mono sw5.size)
  clear sw5
  have o_x0_w6 := o_x0_w5.later hbw6
  clear o_x0_w5
  have o_g0_w6 := p_g0.later hbw6
  clear p_g0
  have i_W0_w6 : Hid (w6.heap[w2.heap.size]? = some (.cells #[.int .i64 xO0_0, .string xO0_1] 33 (0, 0))) := (hbw6.block _ (by omega)).trans i_W0_w5.out
  clear i_W0_w5
  clear hbw6
  refine (eqEntry_any _ _ D0 _ o_g0_w6.reads (RW0.out.later sw6) HD0.out.1).mono ?_
  rintro e w7 ⟨rfl, hbw7⟩
  have zw7 : w6.heap.size ≤ w7.heap.size := hbw7.size
  have bw7 := bw6.trans (hbw7.mono bw6.size)
  clear bw6
  have sw7 := sw6.trans (hbw7.mono sw6.size)
  clear sw6
  have o_x0_w7 := o_x0_w6.later hbw7
  clear o_x0_w6
  have o_g0_w7 := o_g0_w6.later hbw7
  clear o_g0_w6
  have i_W0_w7 : Hid (w7.heap[w2.heap.size]? = some (.cells #[.int .i64 xO0_0, .string xO0_1] 33 (0, 0))) := (hbw7.block _ (by omega)).trans i_W0_w6.out
  clear i_W0_w6
  have i_g0_w7 : Hid (w7.heap[w5.heap.size]? = some (.cells #[.int .i64 xO0_0, .string xO0_1] 33 (0, 0))) := (hbw7.block _ (by omega)).trans i_g0_w6.out
  clear i_g0_w6
  clear hbw7
  go_wp2_with fail
  refine (qto0.out _ bw7 HZ0.out).mono ?_
  rintro e w8 ⟨u_t0, F_t0, rfl, p_t0, nd_t0, hbw8⟩
  have zw8 : w7.heap.size ≤ w8.heap.size := hbw8.size
  have bw8 := bw7.trans (hbw8.mono bw7.size)
  clear bw7
  have sw8 := sw7.trans (hbw8.mono sw7.size)
  clear sw7
  have o_x0_w8 := o_x0_w7.later hbw8
  clear o_x0_w7
  have o_g0_w8 := o_g0_w7.later hbw8
  clear o_g0_w7
  have i_W0_w8 : Hid (w8.heap[w2.heap.size]? = some (.cells #[.int .i64 xO0_0, .string xO0_1] 33 (0, 0))) := (hbw8.block _ (by omega)).trans i_W0_w7.out
  clear i_W0_w7
  have i_g0_w8 : Hid (w8.heap[w5.heap.size]? = some (.cells #[.int .i64 xO0_0, .string xO0_1] 33 (0, 0))) := (hbw8.block _ (by omega)).trans i_g0_w7.out
  clear i_g0_w7
  clear hbw8
  have lt_t0 : Hid (∀ g ∈ F_t0, w7.heap.size ≤ g ∧ g < w8.heap.size) := p_t0.lt
  go_wp2_with fail
  refine (qeq0.out _ _ _ o_x0_w8.reads p_t0.reads HZ0.out).mono ?_
  rintro e w9 ⟨rfl, hbw9⟩
  have zw9 : w8.heap.size ≤ w9.heap.size := hbw9.size
  have bw9 := bw8.trans (hbw9.mono bw8.size)
  clear bw8
  have sw9 := sw8.trans (hbw9.mono sw8.size)
  clear sw8
  have o_x0_w9 := o_x0_w8.later hbw9
  clear o_x0_w8
  have o_g0_w9 := o_g0_w8.later hbw9
  clear o_g0_w8
  have o_t0_w9 := p_t0.later hbw9
  clear p_t0
  have i_W0_w9 : Hid (w9.heap[w2.heap.size]? = some (.cells #[.int .i64 xO0_0, .string xO0_1] 33 (0, 0))) := (hbw9.block _ (by omega)).trans i_W0_w8.out
  clear i_W0_w8
  have i_g0_w9 : Hid (w9.heap[w5.heap.size]? = some (.cells #[.int .i64 xO0_0, .string xO0_1] 33 (0, 0))) := (hbw9.block _ (by omega)).trans i_g0_w8.out
  clear i_g0_w8
  clear hbw9
  clear o_t0_w9 nd_t0 lt_t0
  go_wp2
  go_ret
  exact ⟨rfl, bw9⟩

end Go.Proofs.Ytbjmjmammpgbmaa
