/-
  Joined: DOkS, DirI, SortI, IdsI.
-/
import Derived.Test.YtkaegbhmeonjfaaGreatJ6FnExactDiskCrash
import Derived.Test.YtkaegbhmeonjfaaGreatShelf
/- DOkS: DiskOk of the model. -/
namespace Go.Proofs.YtkaegbhmeonjfaaGreat
open Go.RowKit
set_option linter.unusedVariables false
set_option maxRecDepth 100000

theorem take_snocT (l : List TurnD) (k : Nat) (hk : k < l.length) (x : TurnD) (hx : l[k] = x) : l.take (k + 1) = l.take k ++ [x] := by
  rw [List.take_succ_eq_append_getElem hk, hx]

theorem reads_take {e : Sh} {w : World} {a : Option Addr} {n c k : Nat} {d : List e.D} (h : Reads (.sl e) w [.slice a n c] d) (hk : k ≤ n) : Reads (.sl e) w [.slice a k c] (d.take k) := by
  obtain ⟨ad, cap, e1, hl, hm, h0⟩ := h
  simp only [List.cons.injEq, Value.slice.injEq, and_true] at e1
  obtain ⟨rfl, hn, rfl⟩ := e1
  have hlen : List.length (d.take k) = k := by rw [List.length_take]; omega
  refine ⟨a, c, by rw [hlen], by rw [hlen]; omega, hm, ?_⟩
  rcases h0 with h0 | ⟨b, off, ha, hlt, hx⟩
  · left; rw [hlen]; omega
  · right
    refine ⟨b, off, ha, hlt, fun i x hi => ?_⟩
    have h1 : (d.take k)[i]? = some x := hi
    rw [List.getElem?_take] at h1
    split at h1
    · exact hx i x h1
    · cases h1

set_option maxRecDepth 100000 in
set_option maxHeartbeats 8000000 in
theorem specOk_ok (V : Bool) (cs : List Value) (d : shDisk.D) (w : World) (hV1 : specOkP d → V = true) (hV2 : ¬ specOkP d → V = false) (hr : Reads shDisk w cs d) (hs : shDisk.sz d ≤ 1048576) :
    Calls Tryz.prog 31 #[.agg cs.toArray] w fun e w' => e = .returned (.bool V) ∧ Below w.heap.size w w' := by
  obtain ⟨i0, hi, hz0, hz1, hz2⟩ := info_parts infoI
  obtain ⟨a3, n3, c3, a4, n4, c4, a5, n5, c5, rfl, r3, r4, r5⟩ := open_Disk hr
  obtain ⟨x0, e0⟩ : ∃ x : Int, x = d.1 := ⟨_, rfl⟩
  obtain ⟨x1, e1⟩ : ∃ x : Int, x = d.2.1 := ⟨_, rfl⟩
  obtain ⟨x2, e2⟩ : ∃ x : Int, x = d.2.2.1 := ⟨_, rfl⟩
  obtain ⟨nd, hnd⟩ : ∃ l : List NodeD, l = d.2.2.2.1 := ⟨_, rfl⟩
  obtain ⟨kp, hkp⟩ : ∃ l : List LinkD, l = d.2.2.2.2.1 := ⟨_, rfl⟩
  obtain ⟨tn, htn⟩ : ∃ l : List TurnD, l = d.2.2.2.2.2.1 := ⟨_, rfl⟩
  obtain ⟨U, hU⟩ : ∃ U, U = used d := ⟨_, rfl⟩
  have qU : Hid (∀ w', Below w.heap.size w w' → Calls Tryz.prog 60 #[.agg #[.int .i64 d.1, .int .i64 d.2.1, .int .i64 d.2.2.1, .slice a3 n3 c3, .slice a4 n4 c4, .slice a5 n5 c5]] w' fun e w'' => e = .returned (.int .i64 U) ∧ Below w'.heap.size w' w'') := fun w' hb => by rw [hU]; exact specUsed_ok _ d w' (hr.later hb) hs
  have qI : Hid (∀ w', Below w.heap.size w w' → Calls Tryz.prog 63 #[.agg #[.int .i64 d.1, .int .i64 d.2.1, .int .i64 d.2.2.1, .slice a3 n3 c3, .slice a4 n4 c4, .slice a5 n5 c5]] w' fun e w'' => ∃ g c, e = .returned (.slice (some ⟨g, 0, none⟩) (idsL kp tn).length c) ∧ Own (.sl .int) w'' w'.heap.size [.slice (some ⟨g, 0, none⟩) (idsL kp tn).length c] (idsL kp tn) [g] ∧ Below w'.heap.size w' w'') := fun w' hb => by rw [hkp, htn]; exact specIds_ok _ d w' (hr.later hb) hs
  rw [sz_Disk] at hs
  have l3 : nd.length = n3 := by rw [hnd]; exact (reads_len r3).1
  have l4 : kp.length = n4 := by rw [hkp]; exact (reads_len r4).1
  have l5 : tn.length = n5 := by rw [htn]; exact (reads_len r5).1
  have s3 : n3 ≤ Sh.sz (.sl shNode) d.2.2.2.1 := by rw [← l3, hnd]; exact Nat.le_add_right _ _
  have s4 : n4 ≤ Sh.sz (.sl shLink) d.2.2.2.2.1 := by rw [← l4, hkp]; exact Nat.le_add_right _ _
  have s5 : n5 ≤ Sh.sz (.sl shTurn) d.2.2.2.2.2.1 := by rw [← l5, htn]; exact Nat.le_add_right _ _
  have hn345 : n3 + n4 + n5 ≤ 1048576 := by omega
  rw [← hnd] at r3
  rw [← hkp] at r4
  rw [← htn] at r5
  have HP : Hid (specOkP d ↔ limitsP x0 x1 x2 n3 n4 n5 ∧ nodesTo nd x2 n3 ∧ keptTo kp n4 ∧ (idsL kp tn).length = n3 ∧ idsTo (idsL kp tn) (nodeIds nd) (idsL kp tn).length ∧ turnsOkL kp tn ∧ U ≤ x0) := by
    show _ ↔ _
    rw [← l3, ← l4, ← l5, e0, e1, e2, hnd, hkp, htn, hU]
    exact Iff.rfl
  rw [← e0, ← e1, ← e2] at qU qI ⊢
  have HR : Hid (Reads (.sl shNode) w [.slice a3 n3 c3] nd ∧ Reads (.sl shLink) w [.slice a4 n4 c4] kp ∧ Reads (.sl shTurn) w [.slice a5 n5 c5] tn) := ⟨r3, r4, r5⟩
  have HL : Hid (nd.length = n3 ∧ kp.length = n4 ∧ tn.length = n5) := ⟨l3, l4, l5⟩
  have Hno : Hid (¬ specOkP d → V = false) := hV2
  have Hyes : Hid (specOkP d → V = true) := hV1
  obtain ⟨W0, hW0⟩ : ∃ W0, W0 = w.alloc (.cells #[.int .i64 x0, .int .i64 x1, .int .i64 x2, .slice a3 n3 c3, .slice a4 n4 c4, .slice a5 n5 c5] 33) := ⟨_, rfl⟩
  have bW0 : Below w.heap.size w W0 := by rw [hW0]; exact (Below.refl _ _).alloc (Nat.le_refl _) _
  have hbox : W0.heap[w.heap.size]? = some (.cells #[.int .i64 x0, .int .i64 x1, .int .i64 x2, .slice a3 n3 c3, .slice a4 n4 c4, .slice a5 n5 c5] 33 (0, 0)) := by rw [hW0]; exact heap_alloc_new w _
  have zW0 : W0.heap.size = w.heap.size + 1 := by rw [hW0]; simp
  have zlt0 : w.heap.size < W0.heap.size := by omega
  have ZW0 : Hid (W0.heap.size = w.heap.size + 1) := zW0
  have HW0 : Hid (W0 = w.alloc (.cells #[.int .i64 x0, .int .i64 x1, .int .i64 x2, .slice a3 n3 c3, .slice a4 n4 c4, .slice a5 n5 c5] 33)) := hW0
  have BX : Hid (∀ w', Below W0.heap.size W0 w' → w'.cell? ⟨w.heap.size, 0, none⟩ = some (.int .i64 x0) ∧ w'.cell? ⟨w.heap.size, 1, none⟩ = some (.int .i64 x1) ∧ w'.cell? ⟨w.heap.size, 2, none⟩ = some (.int .i64 x2) ∧ w'.cell? ⟨w.heap.size, 3, none⟩ = some (.slice a3 n3 c3) ∧ w'.cell? ⟨w.heap.size, 4, none⟩ = some (.slice a4 n4 c4) ∧ w'.cell? ⟨w.heap.size, 5, none⟩ = some (.slice a5 n5 c5)) := fun w' h' => by
    have i := (h'.block _ (by omega)).trans hbox
    exact ⟨box_cell i rfl, box_cell i rfl, box_cell i rfl, box_cell i rfl, box_cell i rfl, box_cell i rfl⟩
  have hown0 := World.ownsRow_lit (base := W0.heap.size) (e := 3) (size := 1) W0 #[] 0 (Nat.le_refl _) (Nat.zero_le _) rfl
  clear hr hs r3 r4 r5 e0 e1 e2 hnd hkp htn hU l3 l4 l5 s3 s4 s5 hW0 hbox zW0 hV1 hV2
  by_cases hlim : limitsP x0 x1 x2 n3 n4 n5
  case neg =>
    have EE : Hid (V = false) := Hno.out (fun h => hlim (HP.out.1 h).1)
    unfold limitsP at hlim
    clear qU qI
    go_enter Tryz.func31, Tryz.ntmps31
    go_wp2
    all_goals first | (exfalso; omega) | (go_ret; exact ⟨by rw [EE.out]; rfl, by rw [← HW0.out]; exact bW0⟩)
  case pos =>
  have HLIM : Hid (limitsP x0 x1 x2 n3 n4 n5) := hlim
  obtain ⟨t0, t1, t2, t3, t4, t5, t6, t7, t8⟩ := hlim
  have u0 : ¬ x0 < 0 := by omega
  have u1 : ¬ 60000 < x0 := by omega
  have u2 : ¬ x1 < -1 := by omega
  have u3 : ¬ 1000 < x1 := by omega
  have u4 : ¬ x2 < 1 := by omega
  have u5 : ¬ 1000000 < x2 := by omega
  have u6 : ¬ (8 : Int) < (n3 : Int) := by omega
  have u7 : ¬ (8 : Int) < (n4 : Int) := by omega
  have u8 : ¬ (40 : Int) < (n5 : Int) := by omega
  go_enter Tryz.func31, Tryz.ntmps31
  go_wp2
  rw [← HW0.out]
  clear u0 u1 u2 u3 u4 u5 u6 u7 u8
  go_loopw [3, 64] (fun v i wr => ∃ (k g c m : Nat) (xs : List Int), k ≤ n3 ∧ v = .slice (some ⟨g, 0, none⟩) m c ∧ i = .int .i64 k ∧ wr.ownsRow W0.heap.size 3 1 (.slice (some ⟨g, 0, none⟩) m c) m (xs.map (Value.int .i64)) ∧ Below W0.heap.size W0 wr ∧ Hid (xs = nodeIds (nd.take k) ∧ xs.length = m ∧ nodesTo nd x2 k) ∧ m ≤ k) (fun _ i _ => n3 - (intOf i).toNat)
  case atStart => exact ⟨0, W0.heap.size, 0, 0, [], Nat.zero_le _, by rw [ZW0.out], rfl, hown0, (Below.refl _ _).alloc (Nat.le_refl _) _, ⟨by simp [nodeIds], rfl, fun i _ h => by omega⟩, Nat.le_refl _⟩
  case round =>
    obtain ⟨k, g, c, m, xs, hk, rfl, rfl, hown, hbel, hx0, hxl⟩ := hrel
    have hbs := hbel.size
    have hg := hown.lt g rfl
    by_cases hlt : k < n3
    · obtain ⟨b, off, cc, x, rfl, hb, hx, hrx, hcell⟩ := reads_elem HR.out.1 k hlt
      obtain ⟨p1, m1, k1, p2, m2, k2, rfl, _, _⟩ := open_Node hrx
      obtain ⟨hkd, hxe⟩ := at_some' hx
      have hst := nodeIds_take nd k hkd x hxe
      obtain ⟨y0, ey0⟩ : ∃ y : Int, y = x.1 := ⟨_, rfl⟩
      have hy0 : (nd[k]'hkd).1 = y0 := by rw [ey0]; exact congrArg Prod.fst hxe
      have bw := bW0.trans (hbel.mono bW0.size)
      have g0 : wr.cell? ⟨b, off + k * 3, none⟩ = some (.int .i64 y0) := by rw [ey0]; exact (bw.cell (p := ⟨b, off + (k * 3 + 0), none⟩) hb).trans (hcell 0 (by decide))
      have g1 : wr.cell? ⟨b, off + k * 3 + 1, none⟩ = some (.slice p1 m1 k1) := (bw.cell (p := ⟨b, off + (k * 3 + 1), none⟩) hb).trans (hcell 1 (by decide))
      have g2 : wr.cell? ⟨b, off + k * 3 + 2, none⟩ = some (.slice p2 m2 k2) := (bw.cell (p := ⟨b, off + (k * 3 + 2), none⟩) hb).trans (hcell 2 (by decide))
      obtain ⟨v0, v1, v2, v3, v4, v5⟩ := BX.out wr hbel
      have zlt : w.heap.size < wr.heap.size := by omega
      have bA : Below W0.heap.size W0 (wr.alloc (.cells #[.int .i64 y0, .slice p1 m1 k1, .slice p2 m2 k2] 70)) := hbel.alloc hbs _
      have oA : (wr.alloc (.cells #[.int .i64 y0, .slice p1 m1 k1, .slice p2 m2 k2] 70)).ownsRow W0.heap.size 3 1 (.slice (some ⟨g, 0, none⟩) m c) m (xs.map (Value.int .i64)) := hown.alloc _
      have bwA := bW0.trans (bA.mono bW0.size)
      rw [← ey0] at hst
      have HX : Hid (xs ++ [y0] = nodeIds (nd.take (k + 1)) ∧ (xs ++ [y0]).length = m + 1) := ⟨by rw [hst, hx0.out.1], by rw [List.length_append, hx0.out.2.1]; rfl⟩
      have HY : Hid ((nd[k]'hkd).1 = y0) := hy0
      clear hcell hrx hx hxe ey0 hst hown hy0
      by_cases z1 : y0 < 1
      · have EE : Hid (V = false) := Hno.out (fun h => by have := ((HP.out.1 h).2.1 k hkd hlt).1; rw [HY.out] at this; omega)
        have z1' : decide (y0 < 1) = true := decide_eq_true z1
        go_wp2
        go_quiet (fail)
        go_wp2
        go_ret
        exact ⟨by rw [EE.out]; rfl, below_drewN bwA _⟩
      have z1' : decide (y0 < 1) = false := decide_eq_false z1
      by_cases z2 : x2 ≤ y0
      · have EE : Hid (V = false) := Hno.out (fun h => by have := ((HP.out.1 h).2.1 k hkd hlt).2.1; rw [HY.out] at this; omega)
        have z2' : decide (x2 ≤ y0) = true := decide_eq_true z2
        go_wp2
        go_quiet (fail)
        go_wp2
        go_ret
        exact ⟨by rw [EE.out]; rfl, below_drewN bwA _⟩
      have z2' : decide (x2 ≤ y0) = false := decide_eq_false z2
      have oQ : Hid (∀ q, ((wr.alloc (.cells #[.int .i64 y0, .slice p1 m1 k1, .slice p2 m2 k2] 70)).drewN q).ownsRow W0.heap.size 3 1 (.slice (some ⟨g, 0, none⟩) m c) m (xs.map (Value.int .i64))) := fun q => oA
      clear oA
      by_cases hk0 : k = 0
      · have dk0 : decide ((0 : Int) < (k : Int)) = false := decide_eq_false (by omega)
        have dk1 : decide (0 < k) = false := decide_eq_false (by omega)
        have hkn : ¬ 0 < k := by omega
        have HX2 : Hid (xs ++ [y0] = nodeIds (nd.take (k + 1)) ∧ (xs ++ [y0]).length = m + 1 ∧ nodesTo nd x2 (k + 1)) := ⟨HX.out.1, HX.out.2, nodesTo_succ hx0.out.2.2 hkd (by rw [HY.out]; omega) (by rw [HY.out]; omega) (fun j hj e => by omega)⟩
        clear HX HY hx0 hk0
        go_wp2
        go_quiet (fail)
        go_wp2_with (at_builtin; refine wpList_append_lies _ rfl _ _ 27 rfl W0.heap.size 3 i0 (.int .i64 0) 1 8 Tryz.underlying27 hi hz0 hz1 hz2 rfl (by decide) _ m _ rfl ((oQ.out _).alloc _) ⟨_, 0, none⟩ 1 _ [.int .i64 y0] rfl rfl ?c1 ?c2 (by omega) ?c3 ?c4 ?c5 _ rfl ?_)
        case c1 => exact cells_new' _ _ _ _ (by simp)
        case c2 => intro u hu; simp at hu; rcases hu with rfl; rfl
        case c3 => unfold maxLen; omega
        case c4 => omega
        case c5 => simp; omega
        intro gg cap1 w3 hown3 hgrow3 _ _
        have hbel3 : Below W0.heap.size W0 w3 := Below.grown ((below_drewN bA _).alloc (by simp; omega) _) hgrow3 (by simp; omega) (fun y h => by cases h; exact hg.1)
        rw [ints_snoc] at hown3
        clear hgrow3 oQ bA g0 g1 g2
        go_wp2
        go_roundw
        case rel => exact ⟨k + 1, gg, cap1, m + 1, xs ++ [y0], by omega, rfl, by go_num, hown3, hbel3, HX2, by omega⟩
        case measure => simp [intOf]; omega
      · obtain ⟨j, hj⟩ : ∃ j, k = j + 1 := ⟨k - 1, by omega⟩
        have dk0 : decide ((0 : Int) < (k : Int)) = true := decide_eq_true (by omega)
        have dk1 : decide (0 < k) = true := decide_eq_true (by omega)
        have hkn : 0 < k := by omega
        have hj1 : (k : Int) - 1 = (j : Int) := by omega
        have HJ : Hid (k = j + 1) := hj
        obtain ⟨b', off', cc', x', hbo, _, hx', hrx', hcell'⟩ := reads_elem HR.out.1 j (by omega)
        simp only [Option.some.injEq, Addr.mk.injEq, and_true] at hbo
        obtain ⟨rfl, rfl⟩ := hbo
        obtain ⟨p1', m1', k1', p2', m2', k2', rfl, _, _⟩ := open_Node hrx'
        obtain ⟨hjd, hxe'⟩ := at_some' hx'
        obtain ⟨z, ez⟩ : ∃ y : Int, y = x'.1 := ⟨_, rfl⟩
        have HZ : Hid ((nd[j]'hjd).1 = z) := by show _ = _; rw [ez]; exact congrArg Prod.fst hxe'
        have f0 : wr.cell? ⟨b, off + j * 3, none⟩ = some (.int .i64 z) := by rw [ez]; exact (bw.cell (p := ⟨b, off + (j * 3 + 0), none⟩) hb).trans (hcell' 0 (by decide))
        clear hcell' hrx' hx' hxe' ez
        have hjn : (j : Int) < (n3 : Int) := by omega
        have hbw : b < wr.heap.size := by omega
        have hwj : IntKind.i64.wrap (j : Int) = (j : Int) := wrap_i64_in _ (by omega) (by omega)
        have hj0 : (0 : Int) < (k : Int) := by omega
        clear hj hk0
        by_cases z3 : y0 ≤ z
        · have EE : Hid (V = false) := Hno.out (fun h => by have := ((HP.out.1 h).2.1 k hkd hlt).2.2 j hjd HJ.out.symm; rw [HY.out, HZ.out] at this; omega)
          have z3' : decide (y0 ≤ z) = true := decide_eq_true z3
          go_wp2
          go_quiet (fail)
          go_wp2
          go_ret
          exact ⟨by rw [EE.out]; rfl, below_drewN bwA _⟩
        have z3' : decide (y0 ≤ z) = false := decide_eq_false z3
        have HX2 : Hid (xs ++ [y0] = nodeIds (nd.take (k + 1)) ∧ (xs ++ [y0]).length = m + 1 ∧ nodesTo nd x2 (k + 1)) := by
          refine ⟨HX.out.1, HX.out.2, nodesTo_succ hx0.out.2.2 hkd (by rw [HY.out]; omega) (by rw [HY.out]; omega) (fun i hi e => ?_)⟩
          obtain rfl : i = j := by have := HJ.out; omega
          have q1 := HY.out
          have q2 := HZ.out
          have q3 : y0 > z := by omega
          rw [← q1, ← q2] at q3
          exact q3
        clear HX HY HZ hx0
        go_wp2
        go_quiet (fail)
        go_wp2_with (at_builtin; refine wpList_append_lies _ rfl _ _ 27 rfl W0.heap.size 3 i0 (.int .i64 0) 1 8 Tryz.underlying27 hi hz0 hz1 hz2 rfl (by decide) _ m _ rfl ((oQ.out _).alloc _) ⟨_, 0, none⟩ 1 _ [.int .i64 y0] rfl rfl ?c1 ?c2 (by omega) ?c3 ?c4 ?c5 _ rfl ?_)
        case c1 => exact cells_new' _ _ _ _ (by simp)
        case c2 => intro u hu; simp at hu; rcases hu with rfl; rfl
        case c3 => unfold maxLen; omega
        case c4 => omega
        case c5 => simp; omega
        intro gg cap1 w3 hown3 hgrow3 _ _
        have hbel3 : Below W0.heap.size W0 w3 := Below.grown ((below_drewN bA _).alloc (by simp; omega) _) hgrow3 (by simp; omega) (fun y h => by cases h; exact hg.1)
        rw [ints_snoc] at hown3
        clear hgrow3 oQ bA g0 g1 g2 f0
        go_wp2
        go_roundw
        case rel => exact ⟨k + 1, gg, cap1, m + 1, xs ++ [y0], by omega, rfl, by go_num, hown3, hbel3, HX2, by omega⟩
        case measure => simp [intOf]; omega
    · have hm3 : n3 = m := by
        have h1 := hx0.out.2.1
        rw [hx0.out.1, List.take_of_length_le (by have := HL.out.1; omega)] at h1
        have h2 := HL.out.1
        simp [nodeIds] at h1
        omega
      subst hm3
      have HN : Hid (xs = nodeIds nd ∧ nodesTo nd x2 n3) := by
        have e : k = n3 := by omega
        have h2 := hx0.out.2.2
        rw [e] at h2
        exact ⟨by rw [hx0.out.1, List.take_of_length_le (by have := HL.out.1; omega)], h2⟩
      clear hx0 hxl hg
      obtain ⟨v0, v1, v2, v3, v4, v5⟩ := BX.out wr hbel
      have H1 : Hid (wr.ownsRow W0.heap.size 3 1 (.slice (some ⟨g, 0, none⟩) n3 c) n3 (xs.map (Value.int .i64)) ∧ Below W0.heap.size W0 wr) := ⟨hown, hbel⟩
      clear hown hbel hbs
      go_wp2
      clear v0 v1 v2 v3 v4 v5
      go_loopw [104] (fun i wr => ∃ k : Nat, k ≤ n4 ∧ i = .int .i64 k ∧ wr.ownsRow W0.heap.size 3 1 (.slice (some ⟨g, 0, none⟩) n3 c) n3 (xs.map (Value.int .i64)) ∧ Below W0.heap.size W0 wr ∧ Hid (keptTo kp k)) (fun i _ => n4 - (intOf i).toNat)
      case atStart => exact ⟨0, Nat.zero_le _, rfl, H1.out.1, H1.out.2, fun i _ h => by omega⟩
      case round =>
        clear H1 hlt hk
        obtain ⟨k, hk, rfl, hown, hbel, hx0⟩ := hrel
        have hbs := hbel.size
        by_cases hlt : k < n4
        · obtain ⟨b, off, cc, x, rfl, hb, hx, hrx, hcell⟩ := reads_elem HR.out.2.1 k hlt
          obtain ⟨rfl, hys⟩ := open_Link hrx
          obtain ⟨hkd, hxe⟩ := at_some' hx
          obtain ⟨y0, ey0⟩ : ∃ y : ByteArray, y = x.1 := ⟨_, rfl⟩
          obtain ⟨y1, ey1⟩ : ∃ y : Int, y = x.2.1 := ⟨_, rfl⟩
          have HY : Hid ((kp[k]'hkd).1 = y0 ∧ (kp[k]'hkd).2.1 = y1) := ⟨by rw [ey0]; exact congrArg Prod.fst hxe, by rw [ey1]; exact congrArg (fun q : LinkD => q.2.1) hxe⟩
          have bw := bW0.trans (hbel.mono bW0.size)
          have g0 : wr.cell? ⟨b, off + k * 2, none⟩ = some (.string y0) := by rw [ey0]; exact (bw.cell (p := ⟨b, off + (k * 2 + 0), none⟩) hb).trans (hcell 0 (by decide))
          have g1 : wr.cell? ⟨b, off + k * 2 + 1, none⟩ = some (.int .i64 y1) := by rw [ey1]; exact (bw.cell (p := ⟨b, off + (k * 2 + 1), none⟩) hb).trans (hcell 1 (by decide))
          rw [← ey0] at hys
          obtain ⟨v0, v1, v2, v3, v4, v5⟩ := BX.out wr hbel
          have zlt : w.heap.size < wr.heap.size := by omega
          have hbw : b < wr.heap.size := by omega
          have bA : Below W0.heap.size W0 (wr.alloc (.cells #[.string y0, .int .i64 y1] 111)) := hbel.alloc hbs _
          have oQ : Hid (∀ q, ((wr.alloc (.cells #[.string y0, .int .i64 y1] 111)).drewN q).ownsRow W0.heap.size 3 1 (.slice (some ⟨g, 0, none⟩) n3 c) n3 (xs.map (Value.int .i64))) := fun q => hown.alloc _
          have bwA := bW0.trans (bA.mono bW0.size)
          clear hcell hrx hx hxe ey0 ey1 hown
          cases hN : nameB y0 with
          | false =>
            have EE : Hid (V = false) := Hno.out (fun h => by have := ((HP.out.1 h).2.2.1 k hkd hlt).1; rw [HY.out.1] at this; exact (nameB_not y0).1 hN this)
            go_wp2
            go_quiet ((go_at_call 76; refine Calls.quiet_of_same (specNameB _ _ hys)))
            rw [hN]
            go_wp2
            go_ret
            exact ⟨by rw [EE.out]; rfl, below_drewN bwA _⟩
          | true =>
          by_cases z1 : y1 < 1
          · have EE : Hid (V = false) := Hno.out (fun h => by have := ((HP.out.1 h).2.2.1 k hkd hlt).2.1; rw [HY.out.2] at this; omega)
            have z1' : decide (y1 < 1) = true := decide_eq_true z1
            go_wp2
            go_quiet ((go_at_call 76; refine Calls.quiet_of_same (specNameB _ _ hys)))
            go_wp2
            go_ret
            exact ⟨by rw [EE.out]; rfl, below_drewN bwA _⟩
          have z1' : decide (y1 < 1) = false := decide_eq_false z1
          by_cases hk0 : k = 0
          · have dk0 : decide ((0 : Int) < (k : Int)) = false := decide_eq_false (by omega)
            have dk1 : decide (0 < k) = false := decide_eq_false (by omega)
            have hkn : ¬ 0 < k := by omega
            have HX2 : Hid (keptTo kp (k + 1)) := keptTo_succ hx0.out hkd (by rw [HY.out.1]; exact (nameB_iff y0).1 hN) (by rw [HY.out.2]; omega) (fun j hj e => by omega)
            clear HY hx0 hk0
            go_wp2
            go_quiet ((go_at_call 76; refine Calls.quiet_of_same (specNameB _ _ hys)))
            go_wp2
            go_roundw
            case rel => exact ⟨k + 1, by omega, by go_num, oQ.out _, below_drewN bA _, HX2⟩
            case measure => simp [intOf]; omega
          · obtain ⟨j, hj⟩ : ∃ j, k = j + 1 := ⟨k - 1, by omega⟩
            have dk0 : decide ((0 : Int) < (k : Int)) = true := decide_eq_true (by omega)
            have dk1 : decide (0 < k) = true := decide_eq_true (by omega)
            have hkn : 0 < k := by omega
            have hj1 : (k : Int) - 1 = (j : Int) := by omega
            have HJ : Hid (k = j + 1) := hj
            obtain ⟨b', off', cc', x', hbo, _, hx', hrx', hcell'⟩ := reads_elem HR.out.2.1 j (by omega)
            simp only [Option.some.injEq, Addr.mk.injEq, and_true] at hbo
            obtain ⟨rfl, rfl⟩ := hbo
            obtain ⟨rfl, _⟩ := open_Link hrx'
            obtain ⟨hjd, hxe'⟩ := at_some' hx'
            obtain ⟨z, ez⟩ : ∃ y : ByteArray, y = x'.1 := ⟨_, rfl⟩
            have HZ : Hid ((kp[j]'hjd).1 = z) := by show _ = _; rw [ez]; exact congrArg Prod.fst hxe'
            have f0 : wr.cell? ⟨b, off + j * 2, none⟩ = some (.string z) := by rw [ez]; exact (bw.cell (p := ⟨b, off + (j * 2 + 0), none⟩) hb).trans (hcell' 0 (by decide))
            clear hcell' hrx' hx' hxe' ez
            have hjn : (j : Int) < (n4 : Int) := by omega
            have hwj : IntKind.i64.wrap (j : Int) = (j : Int) := wrap_i64_in _ (by omega) (by omega)
            have hj0 : (0 : Int) < (k : Int) := by omega
            clear hj hk0
            cases z3 : Go.Op.bytesLess z.toList y0.toList with
            | false =>
              have EE : Hid (V = false) := Hno.out (fun h => by
                have := ((HP.out.1 h).2.2.1 k hkd hlt).2.2 j hjd HJ.out.symm
                rw [HY.out.1, HZ.out] at this
                unfold ltS at this
                rw [z3] at this; cases this)
              go_wp2
              go_quiet ((go_at_call 76; refine Calls.quiet_of_same (specNameB _ _ hys)))
              go_wp2
              go_ret
              exact ⟨by rw [EE.out]; rfl, below_drewN bwA _⟩
            | true =>
              have HX2 : Hid (keptTo kp (k + 1)) := by
                refine keptTo_succ hx0.out hkd (by rw [HY.out.1]; exact (nameB_iff y0).1 hN) (by rw [HY.out.2]; omega) (fun i hi e => ?_)
                obtain rfl : i = j := by have := HJ.out; omega
                have q1 := HY.out.1
                have q2 := HZ.out
                have q3 : ltS z y0 = true := z3
                rw [← q1, ← q2] at q3
                exact q3
              clear HY hx0
              go_wp2
              go_quiet ((go_at_call 76; refine Calls.quiet_of_same (specNameB _ _ hys)))
              go_wp2
              go_roundw
              case rel => exact ⟨k + 1, by omega, by go_num, oQ.out _, below_drewN bA _, HX2⟩
              case measure => simp [intOf]; omega
        · have HK : Hid (keptTo kp n4) := by
            have e : k = n4 := by omega
            have h2 := hx0.out
            rw [e] at h2
            exact h2
          clear hx0
          obtain ⟨v0, v1, v2, v3, v4, v5⟩ := BX.out wr hbel
          have bw := bW0.trans (hbel.mono bW0.size)
          go_wp2_with fail
          refine (qI.out _ bw).mono ?_
          rintro e w5 ⟨g5, c5', rfl, o5, hb5⟩
          obtain ⟨ids, hids⟩ : ∃ l, l = idsL kp tn := ⟨_, rfl⟩
          rw [← hids] at o5 ⊢
          obtain ⟨p, hp⟩ : ∃ p, p = ids.length := ⟨_, rfl⟩
          have HI : Hid (ids = idsL kp tn ∧ p = ids.length) := ⟨hids, hp⟩
          rw [← hp] at o5 ⊢
          have hbel5 := hbel.trans (hb5.mono hbs)
          have hbs5 := hbel5.size
          have oN5 : w5.ownsRow W0.heap.size 3 1 (.slice (some ⟨g, 0, none⟩) n3 c) n3 (xs.map (Value.int .i64)) := own_later hown hb5
          have rI : Reads (.sl .int) w5 [.slice (some ⟨g5, 0, none⟩) p c5'] ids := Own.reads o5
          have rN : Reads (.sl .int) w5 [.slice (some ⟨g, 0, none⟩) n3 c] xs := Own.reads (own_ints' (by rw [HN.out.1]; show (List.map _ nd).length = n3; rw [List.length_map]; exact HL.out.1) oN5)
          have hpc : p ≤ c5' ∧ c5' ≤ maxLen := (reads_len rI).2
          unfold maxLen at hpc
          have HRI : Hid (Reads (.sl .int) w5 [.slice (some ⟨g5, 0, none⟩) p c5'] ids ∧ Reads (.sl .int) w5 [.slice (some ⟨g, 0, none⟩) n3 c] xs) := ⟨rI, rN⟩
          obtain ⟨q0, q1, q2, q3, q4, q5⟩ := BX.out w5 hbel5
          have bw5 := bW0.trans (hbel5.mono bW0.size)
          clear hids hp o5 hb5 oN5 rI rN hown v0 v1 v2 v3 v4 v5 hbel bw hlt hk
          by_cases hpn : p = n3
          rotate_left
          · have EE : Hid (V = false) := Hno.out (fun h => hpn (by rw [HI.out.2, HI.out.1]; exact (HP.out.1 h).2.2.2.1))
            have hq : ((p : Int) == (n3 : Int)) = false := by simp; omega
            have hq' : ((p : Int) != (n3 : Int)) = true := by simp; omega
            clear q0 q1 q2 q3 q4 q5
            go_wp2
            go_ret
            exact ⟨by rw [EE.out]; rfl, bw5⟩
          have HPN : Hid (p = n3) := hpn
          have hq : ((p : Int) == (n3 : Int)) = true := by simp; omega
          have hq' : ((p : Int) != (n3 : Int)) = false := by simp; omega
          clear hpn
          go_wp2
          clear hq hq'
          go_loop [144] (fun i => ∃ k : Nat, k ≤ p ∧ i = .int .i64 k ∧ Hid (idsTo ids xs k)) (fun i => p - (intOf i).toNat)
          case atStart => exact ⟨0, Nat.zero_le _, rfl, fun i _ h => by omega⟩
          case round =>
            obtain ⟨k, hk, rfl, hx0⟩ := hrel
            by_cases hlt : k < p
            · obtain ⟨b', off', cc', y, hbo, _, hy, hry, hcell⟩ := reads_elem HRI.out.1 k hlt
              simp only [Option.some.injEq, Addr.mk.injEq, and_true] at hbo
              obtain ⟨rfl, rfl⟩ := hbo
              obtain ⟨hkd, hye⟩ := at_some' hy
              obtain ⟨z, hz⟩ : ∃ z : Int, z = y := ⟨_, rfl⟩
              have hyc : cc' = [.int .i64 z] := by rw [hz]; exact hry
              subst hyc
              have f0 : w5.cell? ⟨g5, k, none⟩ = some (.int .i64 z) := by have := hcell 0 (by decide); simpa [Sh.size_int] using this
              have HY : Hid ((ids[k]'hkd) = z) := hye.trans hz.symm
              have qh1 : Hid (Calls Tryz.prog 62 #[.slice (some ⟨g5, 0, none⟩) k c5', .int .i64 z] w5 fun e w' => e = .returned (.bool (hasN (ids.take k) z)) ∧ w' = w5) := specHasInt_ok _ k c5' (ids.take k) z w5 (reads_take HRI.out.1 hk)
              have qh2 : Hid (Calls Tryz.prog 62 #[.slice (some ⟨g, 0, none⟩) n3 c, .int .i64 z] w5 fun e w' => e = .returned (.bool (hasN xs z)) ∧ w' = w5) := specHasInt_ok _ n3 c xs z w5 HRI.out.2
              have hkc : (k : Int) ≤ (c5' : Int) := by omega
              clear hcell hry hy hye hz
              go_wp2_with fail
              refine qh1.out.mono ?_
              rintro e w6 ⟨rfl, rfl⟩
              cases hh1 : hasN (ids.take k) z with
              | true =>
                have EE : Hid (V = false) := Hno.out (fun h => by
                  have h5 := (HP.out.1 h).2.2.2.2.1
                  rw [← HI.out.1] at h5
                  have := (h5 k hkd hkd).1
                  rw [HY.out, hh1] at this; cases this)
                go_wp2
                go_ret
                exact ⟨by rw [EE.out]; rfl, bw5⟩
              | false =>
              go_wp2_with fail
              refine qh2.out.mono ?_
              rintro e w6 ⟨rfl, rfl⟩
              cases hh2 : hasN xs z with
              | false =>
                have EE : Hid (V = false) := Hno.out (fun h => by
                  have h5 := (HP.out.1 h).2.2.2.2.1
                  rw [← HI.out.1, ← HN.out.1] at h5
                  have := (h5 k hkd hkd).2
                  rw [HY.out, hh2] at this; cases this)
                go_wp2
                go_ret
                exact ⟨by rw [EE.out]; rfl, bw5⟩
              | true =>
                have HX2 : Hid (idsTo ids xs (k + 1)) := idsTo_succ hx0.out hkd (by rw [HY.out]; exact hh1) (by rw [HY.out]; exact hh2)
                clear hx0 HY
                go_wp2
                go_round
                case rel => exact ⟨k + 1, by omega, by go_num, HX2⟩
                case measure => simp [intOf]; omega
            · have HX3 : Hid (idsTo ids xs ids.length) := by
                have e : k = ids.length := by have := HI.out.2; omega
                have h2 := hx0.out
                rw [e] at h2
                exact h2
              clear hx0
              have H5 : Hid (Below W0.heap.size W0 w5) := hbel5
              clear hbel5
              go_wp2
              clear q0 q1 q2 q3 q4 q5 hlt hk
              go_loopw [11, 166] (fun dv i wr => ∃ (k m c : Nat) (a : Option Addr), k ≤ n5 ∧ dv = .slice a m c ∧ i = .int .i64 k ∧ Below W0.heap.size W0 wr ∧ Hid (Reads (.sl shLink) wr [.slice a m c] (dirL kp (tn.take k)) ∧ turnsOkL kp (tn.take k)) ∧ m ≤ n4 + k) (fun _ i _ => n5 - (intOf i).toNat)
              case atStart => exact ⟨0, n4, c4, a4, Nat.zero_le _, rfl, rfl, H5.out, ⟨HR.out.2.1.later bw5, trivial⟩, by omega⟩
              case round =>
                obtain ⟨k, m, c, a, hk, rfl, rfl, hbel, hx0, hmk⟩ := hrel
                have hbs := hbel.size
                by_cases hlt : k < n5
                · obtain ⟨b, off, cc, x, rfl, hb, hx, hrx, hcell⟩ := reads_elem HR.out.2.2 k hlt
                  obtain ⟨rfl, hl1, hl2⟩ := open_Turn hrx
                  obtain ⟨hkd, hxe⟩ := at_some' hx
                  obtain ⟨y0, ey0⟩ : ∃ y : Int, y = x.1 := ⟨_, rfl⟩
                  obtain ⟨y1, ey1⟩ : ∃ y : ByteArray, y = x.2.1 := ⟨_, rfl⟩
                  obtain ⟨y2, ey2⟩ : ∃ y : ByteArray, y = x.2.2.1 := ⟨_, rfl⟩
                  obtain ⟨y3, ey3⟩ : ∃ y : Int, y = x.2.2.2.1 := ⟨_, rfl⟩
                  have hxv : x = (y0, y1, y2, y3, ()) := by rw [ey0, ey1, ey2, ey3]; rfl
                  have bw := bW0.trans (hbel.mono bW0.size)
                  have g0 : wr.cell? ⟨b, off + k * 4, none⟩ = some (.int .i64 y0) := by rw [ey0]; exact (bw.cell (p := ⟨b, off + (k * 4 + 0), none⟩) hb).trans (hcell 0 (by decide))
                  have g1 : wr.cell? ⟨b, off + k * 4 + 1, none⟩ = some (.string y1) := by rw [ey1]; exact (bw.cell (p := ⟨b, off + (k * 4 + 1), none⟩) hb).trans (hcell 1 (by decide))
                  have g2 : wr.cell? ⟨b, off + k * 4 + 2, none⟩ = some (.string y2) := by rw [ey2]; exact (bw.cell (p := ⟨b, off + (k * 4 + 2), none⟩) hb).trans (hcell 2 (by decide))
                  have g3 : wr.cell? ⟨b, off + k * 4 + 3, none⟩ = some (.int .i64 y3) := by rw [ey3]; exact (bw.cell (p := ⟨b, off + (k * 4 + 3), none⟩) hb).trans (hcell 3 (by decide))
                  rw [← ey1] at hl1
                  rw [← ey2] at hl2
                  have HY : Hid ((tn[k]'hkd) = (y0, y1, y2, y3, ())) := hxe.trans hxv
                  have HT : Hid (tn.take (k + 1) = tn.take k ++ [(y0, y1, y2, y3, ())]) := take_snocT tn k hkd _ HY.out
                  obtain ⟨W1, hW1⟩ : ∃ W1, W1 = wr.alloc (.cells #[.int .i64 y0, .string y1, .string y2, .int .i64 y3] 93) := ⟨_, rfl⟩
                  have bA : Below W0.heap.size W0 W1 := by rw [hW1]; exact hbel.alloc hbs _
                  have bA1 : Below wr.heap.size wr W1 := by rw [hW1]; exact (Below.refl _ _).alloc (Nat.le_refl _) _
                  have zW1 : wr.heap.size < W1.heap.size := by rw [hW1]; simp
                  have hbx : W1.heap[wr.heap.size]? = some (.cells #[.int .i64 y0, .string y1, .string y2, .int .i64 y3] 93 (0, 0)) := by rw [hW1]; exact heap_alloc_new wr _
                  have HW1 : Hid (W1 = wr.alloc (.cells #[.int .i64 y0, .string y1, .string y2, .int .i64 y3] 93)) := hW1
                  have BT : Hid (∀ w', Below W1.heap.size W1 w' → w'.cell? ⟨wr.heap.size, 0, none⟩ = some (.int .i64 y0) ∧ w'.cell? ⟨wr.heap.size, 1, none⟩ = some (.string y1) ∧ w'.cell? ⟨wr.heap.size, 2, none⟩ = some (.string y2) ∧ w'.cell? ⟨wr.heap.size, 3, none⟩ = some (.int .i64 y3)) := fun w' h => by
                    have i := (h.block _ zW1).trans hbx
                    exact ⟨box_cell i rfl, box_cell i rfl, box_cell i rfl, box_cell i rfl⟩
                  have qT : Hid (Calls Tryz.prog 77 #[.slice a m c, .agg #[.int .i64 y0, .string y1, .string y2, .int .i64 y3]] W1 fun e w' => e = .returned (.bool (turnB (dirL kp (tn.take k)) (y0, y1, y2, y3, ()))) ∧ Below W1.heap.size W1 w') := specTurnOk_any a m c _ y0 y1 y2 y3 W1 (hx0.out.1.later bA1) hl1 hl2
                  have qM : Hid (∀ w', Below W1.heap.size W1 w' → Calls Tryz.prog 78 #[.slice a m c, .agg #[.int .i64 y0, .string y1, .string y2, .int .i64 y3]] w' fun e w'' => ∃ g c, e = .returned (.slice (some ⟨g, 0, none⟩) (turnL (dirL kp (tn.take k)) (y0, y1, y2, y3, ())).length c) ∧ Own (.sl shLink) w'' w'.heap.size [.slice (some ⟨g, 0, none⟩) (turnL (dirL kp (tn.take k)) (y0, y1, y2, y3, ())).length c] (turnL (dirL kp (tn.take k)) (y0, y1, y2, y3, ())) [g] ∧ Below w'.heap.size w' w'') :=
                    fun w' hb' => specTurn_any a m c _ y0 y1 y2 y3 w' ((hx0.out.1.later bA1).later hb') hl1 hl2 (by omega)
                  clear hcell hrx hx hxe hxv ey0 ey1 ey2 ey3 hW1 hbx bA1 hl1 hl2
                  go_wp2_with fail
                  rw [← HW1.out]
                  refine qT.out.mono ?_
                  rintro e w6 ⟨rfl, hb6⟩
                  have b6 := bA.trans (hb6.mono bA.size)
                  have bw6 := bW0.trans (b6.mono bW0.size)
                  clear g0 g1 g2 g3
                  cases hT : turnB (dirL kp (tn.take k)) (y0, y1, y2, y3, ()) with
                  | false =>
                    have EE : Hid (V = false) := Hno.out (fun h => by
                      have h6 := turnsOk_take (HP.out.1 h).2.2.2.2.2.1 (k + 1)
                      rw [HT.out] at h6
                      have h7 := turnB_true (turnsOk_snoc.1 h6).2
                      rw [hT] at h7; cases h7)
                    clear hb6
                    go_wp2
                    go_ret
                    exact ⟨by rw [EE.out]; rfl, bw6⟩
                  | true =>
                    have hTT : turnOkL (dirL kp (tn.take k)) (y0, y1, y2, y3, ()) := by
                      rcases Classical.em (turnOkL (dirL kp (tn.take k)) (y0, y1, y2, y3, ())) with h | h
                      · exact h
                      · rw [turnB_false h] at hT; cases hT
                    obtain ⟨d0, d1, d2, d3⟩ := BT.out w6 hb6
                    have H6 : Hid (Below W1.heap.size W1 w6) := hb6
                    clear hb6
                    go_wp2_with fail
                    refine (qM.out _ H6.out).mono ?_
                    rintro e w7 ⟨g7, c7, rfl, o7, hb7⟩
                    have b7 := b6.trans (hb7.mono b6.size)
                    rw [← dirL_snoc, ← HT.out] at o7 ⊢
                    obtain ⟨m7, hm7⟩ : ∃ m7, m7 = (dirL kp (tn.take (k + 1))).length := ⟨_, rfl⟩
                    have hm7k : m7 ≤ n4 + (k + 1) := by
                      have h1 := dirL_len kp (tn.take (k + 1))
                      have h2 := HL.out.2.1
                      have h3 : (tn.take (k + 1)).length ≤ k + 1 := by rw [List.length_take]; omega
                      omega
                    rw [← hm7] at o7 ⊢
                    have HX2 : Hid (Reads (.sl shLink) w7 [.slice (some ⟨g7, 0, none⟩) m7 c7] (dirL kp (tn.take (k + 1))) ∧ turnsOkL kp (tn.take (k + 1))) := ⟨Own.reads o7, by rw [HT.out]; exact turnsOk_snoc.2 ⟨hx0.out.2, hTT⟩⟩
                    clear hb7 o7 hm7 hx0 hTT hT d0 d1 d2 d3
                    go_wp2
                    go_roundw
                    case rel => exact ⟨k + 1, m7, c7, some ⟨g7, 0, none⟩, by omega, rfl, by go_num, b7, HX2, hm7k⟩
                    case measure => simp [intOf]; omega
                · have HTK : Hid (turnsOkL kp tn) := by
                    have h2 := hx0.out.2
                    rw [List.take_of_length_le (by have := HL.out.2.2; omega)] at h2
                    exact h2
                  clear hx0
                  obtain ⟨q0, q1, q2, q3, q4, q5⟩ := BX.out wr hbel
                  have bw := bW0.trans (hbel.mono bW0.size)
                  have zlt : w.heap.size < wr.heap.size := by omega
                  have hbb : Below wr.heap.size wr wr := Below.refl _ _
                  have EV : Hid (V = decide (U ≤ x0)) := by
                    by_cases hu : U ≤ x0
                    · show V = _
                      rw [decide_eq_true hu]
                      exact Hyes.out (HP.out.2 ⟨HLIM.out, HN.out.2, HK.out, by rw [← HI.out.1, ← HI.out.2]; exact HPN.out, by rw [← HI.out.1, ← HN.out.1]; exact HX3.out, HTK.out, hu⟩)
                    · show V = _
                      rw [decide_eq_false hu]
                      exact Hno.out (fun h => hu (HP.out.1 h).2.2.2.2.2.2)
                  go_wp2_with fail
                  go_region_held (fun w' => w'.cell? ⟨w.heap.size, 0, none⟩ = some (.int .i64 x0) ∧ w'.cell? ⟨w.heap.size, 1, none⟩ = some (.int .i64 x1) ∧ w'.cell? ⟨w.heap.size, 2, none⟩ = some (.int .i64 x2) ∧ w'.cell? ⟨w.heap.size, 3, none⟩ = some (.slice a3 n3 c3) ∧ w'.cell? ⟨w.heap.size, 4, none⟩ = some (.slice a4 n4 c4) ∧ w'.cell? ⟨w.heap.size, 5, none⟩ = some (.slice a5 n5 c5))
                    (first | go_keep | (refine ⟨(hb7.cell (p := ⟨w.heap.size, 0, none⟩) (by simp; omega)).trans ?_, (hb7.cell (p := ⟨w.heap.size, 1, none⟩) (by simp; omega)).trans ?_, (hb7.cell (p := ⟨w.heap.size, 2, none⟩) (by simp; omega)).trans ?_, (hb7.cell (p := ⟨w.heap.size, 3, none⟩) (by simp; omega)).trans ?_, (hb7.cell (p := ⟨w.heap.size, 4, none⟩) (by simp; omega)).trans ?_, (hb7.cell (p := ⟨w.heap.size, 5, none⟩) (by simp; omega)).trans ?_⟩ <;> assumption))
                    ((go_at_call 60; refine (qU.out _ (bw.drew)).mono ?_; rintro e w7 ⟨rfl, hb7⟩))
                  have b7 : Below w.heap.size w w7 := bw.drew.trans (hb7.mono (by simp; omega))
                  clear hb7
                  go_wp2
                  go_ret
                  exact ⟨by rw [EV.out]; rfl, b7⟩

end Go.Proofs.YtkaegbhmeonjfaaGreat

/- DirI: directoryBehind, turnsOk of the program. -/
namespace Go.Proofs.YtkaegbhmeonjfaaGreat
open Go.RowKit Go.Maps
set_option linter.unusedVariables false
set_option maxRecDepth 100000

def dirF (l : List LinkD) (ts : List TurnD) : List LinkD := ts.foldl turnI l
theorem dirF_snoc (l : List LinkD) (ts : List TurnD) (t : TurnD) : dirF l (ts ++ [t]) = turnI (dirF l ts) t := by simp [dirF]
theorem rev_take (l : List LinkD) (k : Nat) (hk : k < l.length) (x : LinkD) (hx : l[k] = x) : (l.take (k + 1)).reverse = x :: (l.take k).reverse := by
  rw [List.take_succ_eq_append_getElem hk, hx]; simp

theorem makeMap_run (h : Int) (w : World) : (Instr.makeMap 77 (some (.int .i64 h))).run Tryz.prog w = .ok (.map (some w.heap.size)) (w.alloc (.map #[] 0)) := by
  simp [Instr.makeMap, run_underlying Tryz.underlying77, asInt, Result.andThen]
  rfl

theorem turnsOkI_snoc : ∀ {l : List LinkD} {ts : List TurnD} {t : TurnD}, turnsOkI l (ts ++ [t]) ↔ turnsOkI l ts ∧ turnOkI t ∧ turnFitsI (dirF l ts) t
  | l, [], t => by simp [turnsOkI, dirF]
  | l, u :: ts, t => by
    have ih := turnsOkI_snoc (l := turnI l u) (ts := ts) (t := t)
    simp only [List.cons_append, turnsOkI]
    rw [ih]
    simp [dirF, and_assoc]
theorem turnsOkI_take {l : List LinkD} {ts : List TurnD} (h : turnsOkI l ts) (k : Nat) : turnsOkI l (ts.take k) := by
  induction ts generalizing l k with
  | nil => simpa using h
  | cons t ts ih =>
    cases k with
    | zero => simp [turnsOkI]
    | succ k => exact ⟨h.1, ih h.2 k⟩

set_option maxRecDepth 100000 in
set_option maxHeartbeats 4000000 in
theorem directory_ok (a4 : Option Addr) (n4 c4 : Nat) (kp : List LinkD) (a5 : Option Addr) (n5 c5 : Nat) (tn : List TurnD) (w : World) (r4 : Reads (.sl shLink) w [.slice a4 n4 c4] kp) (r5 : Reads (.sl shTurn) w [.slice a5 n5 c5] tn) (hn45 : n4 + n5 ≤ 1048576) :
    Calls Tryz.prog 42 #[.slice a4 n4 c4, .slice a5 n5 c5] w fun e w' => e = .returned (.map (some w.heap.size)) ∧ MapIs w' w.heap.size (n4 + n5) (dirF kp.reverse tn) ∧ Below w.heap.size w w' := by
  have l4 : kp.length = n4 := (reads_len r4).1
  have l5 : tn.length = n5 := (reads_len r5).1
  have hmm := makeMap_run
  have HR : Hid (Reads (.sl shLink) w [.slice a4 n4 c4] kp ∧ Reads (.sl shTurn) w [.slice a5 n5 c5] tn) := ⟨r4, r5⟩
  have HL : Hid (kp.length = n4 ∧ tn.length = n5) := ⟨l4, l5⟩
  have HM0 : Hid (MapIs (w.alloc (.map #[] 0)) w.heap.size 0 []) := MapIs.made w
  clear r4 r5 l4 l5
  obtain ⟨b, hb0⟩ : ∃ b, b = w.heap.size := ⟨_, rfl⟩
  have HB : Hid (b = w.heap.size) := hb0
  have hbw : w.heap.size ≤ b := by omega
  rw [← hb0] at HM0 ⊢
  clear hb0
  go_enter Tryz.func42, Tryz.ntmps42
  go_wp2
  rw [← HB.out]
  go_loopw [15] (fun i wr => ∃ k : Nat, k ≤ n4 ∧ i = .int .i64 k ∧ Hid (MapIs wr b k (kp.take k).reverse) ∧ Below w.heap.size w wr) (fun i _ => n4 - (intOf i).toNat)
  case atStart => exact ⟨0, Nat.zero_le _, rfl, HM0.out, (Below.refl _ _).alloc (Nat.le_refl _) _⟩
  case round =>
    obtain ⟨k, hk, rfl, hM, hbel⟩ := hrel
    have hbs := hbel.size
    have hblt := hM.out.lt
    by_cases hlt : k < n4
    · obtain ⟨b', off, cc, x, rfl, hb, hx, hrx, hcell⟩ := reads_elem HR.out.1 k hlt
      obtain ⟨rfl, hys⟩ := open_Link hrx
      obtain ⟨hkd, hxe⟩ := at_some' hx
      obtain ⟨y0, ey0⟩ : ∃ y : ByteArray, y = x.1 := ⟨_, rfl⟩
      obtain ⟨y1, ey1⟩ : ∃ y : Int, y = x.2.1 := ⟨_, rfl⟩
      have hxv : x = (y0, y1, ()) := by rw [ey0, ey1]; rfl
      have HT : Hid ((kp.take (k + 1)).reverse = (y0, y1, ()) :: (kp.take k).reverse) := rev_take kp k hkd _ (hxe.trans hxv)
      have g0 : wr.cell? ⟨b', off + k * 2, none⟩ = some (.string y0) := by rw [ey0]; exact (hbel.cell (p := ⟨b', off + (k * 2 + 0), none⟩) hb).trans (hcell 0 (by decide))
      have g1 : wr.cell? ⟨b', off + k * 2 + 1, none⟩ = some (.int .i64 y1) := by rw [ey1]; exact (hbel.cell (p := ⟨b', off + (k * 2 + 1), none⟩) hb).trans (hcell 1 (by decide))
      rw [← ey0] at hys
      clear hcell hrx hx hxe hxv ey0 ey1
      go_wp2_with (at_mapUpdate; refine wp_store _ rfl _ _ _ rfl b k _ rfl (hM.out.alloc _) (by unfold maxLen; omega) y0 y1 rfl rfl hys ?_)
      intro w1 hm1 hg1
      rw [← HT.out] at hm1
      have b1 : Below w.heap.size w w1 := (hbel.alloc hbs _).grown hg1 (by simp; omega) (fun y h => by cases h; exact hbw)
      have HM1 : Hid (MapIs w1 b (k + 1) (kp.take (k + 1)).reverse) := hm1
      clear hm1 hg1 hM
      go_wp2
      go_roundw
      case rel => exact ⟨k + 1, by omega, by go_num, HM1, b1⟩
      case measure => simp [intOf]; omega
    · have HMK : Hid (MapIs wr b n4 kp.reverse) := by
        have h := hM.out
        rw [List.take_of_length_le (by have := HL.out.1; omega)] at h
        exact h.mono hk
      clear hM
      go_wp2
      go_loopw [27] (fun i wr => ∃ k : Nat, k ≤ n5 ∧ i = .int .i64 k ∧ Hid (MapIs wr b (n4 + k) (dirF kp.reverse (tn.take k))) ∧ Below w.heap.size w wr) (fun i _ => n5 - (intOf i).toNat)
      case atStart => exact ⟨0, Nat.zero_le _, rfl, HMK.out, hbel⟩
      case round =>
        clear HMK hbel hbs hlt hk hblt
        obtain ⟨k, hk, rfl, hM, hbel⟩ := hrel
        have hbs := hbel.size
        by_cases hlt : k < n5
        · obtain ⟨b', off, cc, x, rfl, hb, hx, hrx, hcell⟩ := reads_elem HR.out.2 k hlt
          obtain ⟨rfl, hl1, hl2⟩ := open_Turn hrx
          obtain ⟨hkd, hxe⟩ := at_some' hx
          obtain ⟨y0, ey0⟩ : ∃ y : Int, y = x.1 := ⟨_, rfl⟩
          obtain ⟨y1, ey1⟩ : ∃ y : ByteArray, y = x.2.1 := ⟨_, rfl⟩
          obtain ⟨y2, ey2⟩ : ∃ y : ByteArray, y = x.2.2.1 := ⟨_, rfl⟩
          obtain ⟨y3, ey3⟩ : ∃ y : Int, y = x.2.2.2.1 := ⟨_, rfl⟩
          have hxv : x = (y0, y1, y2, y3, ()) := by rw [ey0, ey1, ey2, ey3]; rfl
          have g0 : wr.cell? ⟨b', off + k * 4, none⟩ = some (.int .i64 y0) := by rw [ey0]; exact (hbel.cell (p := ⟨b', off + (k * 4 + 0), none⟩) hb).trans (hcell 0 (by decide))
          have g1 : wr.cell? ⟨b', off + k * 4 + 1, none⟩ = some (.string y1) := by rw [ey1]; exact (hbel.cell (p := ⟨b', off + (k * 4 + 1), none⟩) hb).trans (hcell 1 (by decide))
          have g2 : wr.cell? ⟨b', off + k * 4 + 2, none⟩ = some (.string y2) := by rw [ey2]; exact (hbel.cell (p := ⟨b', off + (k * 4 + 2), none⟩) hb).trans (hcell 2 (by decide))
          have g3 : wr.cell? ⟨b', off + k * 4 + 3, none⟩ = some (.int .i64 y3) := by rw [ey3]; exact (hbel.cell (p := ⟨b', off + (k * 4 + 3), none⟩) hb).trans (hcell 3 (by decide))
          rw [← ey1] at hl1
          rw [← ey2] at hl2
          have HT : Hid (tn.take (k + 1) = tn.take k ++ [(y0, y1, y2, y3, ())]) := take_snocT tn k hkd _ (hxe.trans hxv)
          obtain ⟨W1, hW1⟩ : ∃ W1, W1 = wr.alloc (.cells #[.int .i64 y0, .string y1, .string y2, .int .i64 y3] 93) := ⟨_, rfl⟩
          have bA : Below w.heap.size w W1 := by rw [hW1]; exact hbel.alloc hbs _
          have bA1 : Below wr.heap.size wr W1 := by rw [hW1]; exact (Below.refl _ _).alloc (Nat.le_refl _) _
          have zW1 : wr.heap.size < W1.heap.size := by rw [hW1]; simp
          have hbx : W1.heap[wr.heap.size]? = some (.cells #[.int .i64 y0, .string y1, .string y2, .int .i64 y3] 93 (0, 0)) := by rw [hW1]; exact heap_alloc_new wr _
          have HW1 : Hid (W1 = wr.alloc (.cells #[.int .i64 y0, .string y1, .string y2, .int .i64 y3] 93)) := hW1
          have BT : Hid (∀ w', Below W1.heap.size W1 w' → w'.cell? ⟨wr.heap.size, 0, none⟩ = some (.int .i64 y0) ∧ w'.cell? ⟨wr.heap.size, 1, none⟩ = some (.string y1) ∧ w'.cell? ⟨wr.heap.size, 2, none⟩ = some (.string y2) ∧ w'.cell? ⟨wr.heap.size, 3, none⟩ = some (.int .i64 y3)) := fun w' h => by
            have i := (h.block _ zW1).trans hbx
            exact ⟨box_cell i rfl, box_cell i rfl, box_cell i rfl, box_cell i rfl⟩
          clear hcell hrx hx hxe hxv ey0 ey1 ey2 ey3 hW1 hbx
          have qM : Hid (Calls Tryz.prog 96 #[.map (some b), .agg #[.int .i64 y0, .string y1, .string y2, .int .i64 y3]] W1 fun e w' => e = .returned (.tuple #[]) ∧ MapIs w' b (n4 + k + 1) (turnI (dirF kp.reverse (tn.take k)) (y0, y1, y2, y3, ())) ∧ W1.grownBy w' (some b)) := makeTurn_any b (n4 + k) _ y0 y1 y2 y3 W1 (hM.out.later bA1) hl1 hl2 (by omega)
          clear bA1 hl1 hl2 BT
          go_wp2_with fail
          rw [← HW1.out]
          refine qM.out.mono ?_
          rintro e w1 ⟨rfl, hm1, hg1⟩
          rw [← dirF_snoc, ← HT.out] at hm1
          have b1 : Below w.heap.size w w1 := bA.grown hg1 bA.size (fun y h => by cases h; exact hbw)
          have HM1 : Hid (MapIs w1 b (n4 + (k + 1)) (dirF kp.reverse (tn.take (k + 1)))) := hm1
          clear hm1 hg1 hM
          go_wp2
          go_roundw
          case rel => exact ⟨k + 1, by omega, by go_num, HM1, b1⟩
          case measure => simp [intOf]; omega
        · have HE : Hid (MapIs wr b (n4 + n5) (dirF kp.reverse tn)) := by
            have h := hM.out
            rw [List.take_of_length_le (by have := HL.out.2; omega)] at h
            exact h.mono (by omega)
          clear hM
          go_wp2
          go_ret
          exact ⟨rfl, HE.out, by rw [HB.out]; exact hbel⟩

/-- The turns fit, one behind the other. -/
def fitAllB : List LinkD → List TurnD → Bool
  | _, [] => true
  | l, t :: ts => okIB t && fitsB l t && fitAllB (turnI l t) ts
theorem fitAllB_iff : ∀ (ts : List TurnD) (l : List LinkD), fitAllB l ts = true ↔ turnsOkI l ts
  | [], l => by simp [fitAllB, turnsOkI]
  | t :: ts, l => by
    unfold fitAllB turnsOkI
    rw [Bool.and_eq_true, Bool.and_eq_true, okIB_iff, fitsB_iff, fitAllB_iff ts]
/-- The word of turnsOk. -/
def turnsIB (kp : List LinkD) (tn : List TurnD) : Bool := decide (tn.length ≤ 40) && fitAllB kp.reverse tn
theorem turnsIB_iff (kp : List LinkD) (tn : List TurnD) : turnsIB kp tn = true ↔ tn.length ≤ 40 ∧ turnsOkI kp.reverse tn := by
  unfold turnsIB
  rw [Bool.and_eq_true, decide_eq_true_eq, fitAllB_iff]
theorem turnsIB_no {kp : List LinkD} {tn : List TurnD} (h : ¬ (tn.length ≤ 40 ∧ turnsOkI kp.reverse tn)) : turnsIB kp tn = false := by
  cases e : turnsIB kp tn
  · rfl
  · exact absurd ((turnsIB_iff kp tn).1 e) h
theorem turnsIB_yes {kp : List LinkD} {tn : List TurnD} (h : tn.length ≤ 40 ∧ turnsOkI kp.reverse tn) : turnsIB kp tn = true := (turnsIB_iff kp tn).2 h

set_option maxRecDepth 100000 in
set_option maxHeartbeats 4000000 in
theorem turnsOk_ok (a4 : Option Addr) (n4 c4 : Nat) (kp : List LinkD) (a5 : Option Addr) (n5 c5 : Nat) (tn : List TurnD) (w : World) (r4 : Reads (.sl shLink) w [.slice a4 n4 c4] kp) (r5 : Reads (.sl shTurn) w [.slice a5 n5 c5] tn) (hn45 : n4 + n5 ≤ 1048576) :
    Calls Tryz.prog 87 #[.slice a4 n4 c4, .slice a5 n5 c5] w fun e w' => e = .returned (.bool (turnsIB kp tn)) ∧ Below w.heap.size w w' := by
  have l5 : tn.length = n5 := (reads_len r5).1
  have l4 : kp.length = n4 := (reads_len r4).1
  have HL : Hid (kp.length = n4 ∧ tn.length = n5) := ⟨l4, l5⟩
  have Hno : Hid (¬ (tn.length ≤ 40 ∧ turnsOkI kp.reverse tn) → turnsIB kp tn = false) := turnsIB_no
  have Hyes : Hid (tn.length ≤ 40 ∧ turnsOkI kp.reverse tn → turnsIB kp tn = true) := turnsIB_yes
  obtain ⟨V, hV⟩ : ∃ V, V = turnsIB kp tn := ⟨_, rfl⟩
  rw [← hV] at Hno Hyes ⊢
  have qD : Hid (Calls Tryz.prog 42 #[.slice a4 n4 c4, .slice none 0 0] w fun e w' => e = .returned (.map (some w.heap.size)) ∧ MapIs w' w.heap.size (n4 + 0) kp.reverse ∧ Below w.heap.size w w') :=
    directory_ok a4 n4 c4 kp none 0 0 [] w r4 ⟨none, 0, rfl, Nat.le_refl _, Nat.zero_le _, .inl rfl⟩ (by omega)
  have HR : Hid (True ∧ Reads (.sl shTurn) w [.slice a5 n5 c5] tn) := ⟨trivial, r5⟩
  obtain ⟨b, hb0⟩ : ∃ b, b = w.heap.size := ⟨_, rfl⟩
  have hbw : w.heap.size ≤ b := by omega
  have HB : Hid (b = w.heap.size) := hb0
  rw [← hb0] at qD
  clear r4 r5 l4 l5 hV hb0
  by_cases h40 : (40 : Int) < (n5 : Int)
  · have EE : Hid (V = false) := Hno.out (fun h => by have := HL.out.2; omega)
    go_enter Tryz.func87, Tryz.ntmps87
    go_wp2
    go_ret
    exact ⟨by rw [EE.out]; rfl, Below.refl _ _⟩
  go_enter Tryz.func87, Tryz.ntmps87
  go_wp2_with fail
  refine qD.out.mono ?_
  rintro e w0 ⟨rfl, hm0, hb0⟩
  have HM0 : Hid (MapIs w0 b (n4 + 0) kp.reverse ∧ Below w.heap.size w w0) := ⟨hm0, by have h := hb0; rw [HB.out] at h; exact h⟩
  clear hm0 hb0
  go_wp2
  go_loopw [15] (fun i wr => ∃ k : Nat, k ≤ n5 ∧ i = .int .i64 k ∧ Hid (MapIs wr b (n4 + k) (dirF kp.reverse (tn.take k)) ∧ turnsOkI kp.reverse (tn.take k)) ∧ Below w.heap.size w wr) (fun i _ => n5 - (intOf i).toNat)
  case atStart => exact ⟨0, Nat.zero_le _, rfl, ⟨HM0.out.1, trivial⟩, HM0.out.2⟩
  case round =>
    obtain ⟨k, hk, rfl, hM, hbel⟩ := hrel
    have hbs := hbel.size
    by_cases hlt : k < n5
    · obtain ⟨b', off, cc, x, rfl, hb, hx, hrx, hcell⟩ := reads_elem HR.out.2 k hlt
      obtain ⟨rfl, hl1, hl2⟩ := open_Turn hrx
      obtain ⟨hkd, hxe⟩ := at_some' hx
      obtain ⟨y0, ey0⟩ : ∃ y : Int, y = x.1 := ⟨_, rfl⟩
      obtain ⟨y1, ey1⟩ : ∃ y : ByteArray, y = x.2.1 := ⟨_, rfl⟩
      obtain ⟨y2, ey2⟩ : ∃ y : ByteArray, y = x.2.2.1 := ⟨_, rfl⟩
      obtain ⟨y3, ey3⟩ : ∃ y : Int, y = x.2.2.2.1 := ⟨_, rfl⟩
      have hxv : x = (y0, y1, y2, y3, ()) := by rw [ey0, ey1, ey2, ey3]; rfl
      have g0 : wr.cell? ⟨b', off + k * 4, none⟩ = some (.int .i64 y0) := by rw [ey0]; exact (hbel.cell (p := ⟨b', off + (k * 4 + 0), none⟩) hb).trans (hcell 0 (by decide))
      have g1 : wr.cell? ⟨b', off + k * 4 + 1, none⟩ = some (.string y1) := by rw [ey1]; exact (hbel.cell (p := ⟨b', off + (k * 4 + 1), none⟩) hb).trans (hcell 1 (by decide))
      have g2 : wr.cell? ⟨b', off + k * 4 + 2, none⟩ = some (.string y2) := by rw [ey2]; exact (hbel.cell (p := ⟨b', off + (k * 4 + 2), none⟩) hb).trans (hcell 2 (by decide))
      have g3 : wr.cell? ⟨b', off + k * 4 + 3, none⟩ = some (.int .i64 y3) := by rw [ey3]; exact (hbel.cell (p := ⟨b', off + (k * 4 + 3), none⟩) hb).trans (hcell 3 (by decide))
      rw [← ey1] at hl1
      rw [← ey2] at hl2
      have HT : Hid (tn.take (k + 1) = tn.take k ++ [(y0, y1, y2, y3, ())]) := take_snocT tn k hkd _ (hxe.trans hxv)
      obtain ⟨W1, hW1⟩ : ∃ W1, W1 = wr.alloc (.cells #[.int .i64 y0, .string y1, .string y2, .int .i64 y3] 93) := ⟨_, rfl⟩
      have bA : Below w.heap.size w W1 := by rw [hW1]; exact hbel.alloc hbs _
      have bA1 : Below wr.heap.size wr W1 := by rw [hW1]; exact (Below.refl _ _).alloc (Nat.le_refl _) _
      have zW1 : wr.heap.size < W1.heap.size := by rw [hW1]; simp
      have hbx : W1.heap[wr.heap.size]? = some (.cells #[.int .i64 y0, .string y1, .string y2, .int .i64 y3] 93 (0, 0)) := by rw [hW1]; exact heap_alloc_new wr _
      have HW1 : Hid (W1 = wr.alloc (.cells #[.int .i64 y0, .string y1, .string y2, .int .i64 y3] 93)) := hW1
      have BT : Hid (∀ w', Below W1.heap.size W1 w' → w'.cell? ⟨wr.heap.size, 0, none⟩ = some (.int .i64 y0) ∧ w'.cell? ⟨wr.heap.size, 1, none⟩ = some (.string y1) ∧ w'.cell? ⟨wr.heap.size, 2, none⟩ = some (.string y2) ∧ w'.cell? ⟨wr.heap.size, 3, none⟩ = some (.int .i64 y3)) := fun w' h => by
        have i := (h.block _ zW1).trans hbx
        exact ⟨box_cell i rfl, box_cell i rfl, box_cell i rfl, box_cell i rfl⟩
      clear hcell hrx hx hxe hxv ey0 ey1 ey2 ey3 hW1 hbx
      have qO : Hid (Calls Tryz.prog 117 #[.agg #[.int .i64 y0, .string y1, .string y2, .int .i64 y3]] W1 fun e w' => e = .returned (.bool (okIB (y0, y1, y2, y3, ()))) ∧ Below W1.heap.size W1 w') := turnOk_any y0 y1 y2 y3 W1 hl1 hl2
      have qF : Hid (∀ w', Below W1.heap.size W1 w' → Calls Tryz.prog 118 #[.map (some b), .agg #[.int .i64 y0, .string y1, .string y2, .int .i64 y3]] w' fun e w'' => e = .returned (.bool (fitsB (dirF kp.reverse (tn.take k)) (y0, y1, y2, y3, ()))) ∧ Below w'.heap.size w' w'') := fun w' hb' => turnFits_any b (n4 + k) _ y0 y1 y2 y3 w' ((hM.out.1.later bA1).later hb') hl1 hl2
      have qM : Hid (∀ w', Below W1.heap.size W1 w' → Calls Tryz.prog 96 #[.map (some b), .agg #[.int .i64 y0, .string y1, .string y2, .int .i64 y3]] w' fun e w'' => e = .returned (.tuple #[]) ∧ MapIs w'' b (n4 + k + 1) (turnI (dirF kp.reverse (tn.take k)) (y0, y1, y2, y3, ())) ∧ w'.grownBy w'' (some b)) := fun w' hb' => makeTurn_any b (n4 + k) _ y0 y1 y2 y3 w' ((hM.out.1.later bA1).later hb') hl1 hl2 (by omega)
      clear bA1 hl1 hl2
      go_wp2_with fail
      rw [← HW1.out]
      refine qO.out.mono ?_
      rintro e w1 ⟨rfl, hb1⟩
      have b1 := bA.trans (hb1.mono bA.size)
      have HB1 : Hid (Below W1.heap.size W1 w1) := hb1
      clear hb1 g0 g1 g2 g3
      cases hO : okIB (y0, y1, y2, y3, ()) with
      | false =>
        have EE : Hid (V = false) := Hno.out (fun h => by
          have h6 := turnsOkI_take h.2 (k + 1)
          rw [HT.out] at h6
          have h7 := (okIB_iff _).2 (turnsOkI_snoc.1 h6).2.1
          rw [hO] at h7; cases h7)
        go_wp2
        go_ret
        exact ⟨by rw [EE.out]; rfl, b1⟩
      | true =>
      obtain ⟨d0, d1, d2, d3⟩ := BT.out w1 HB1.out
      go_wp2_with fail
      refine (qF.out _ HB1.out).mono ?_
      rintro e w2 ⟨rfl, hb2⟩
      have b2 := b1.trans (hb2.mono b1.size)
      have HB2 : Hid (Below W1.heap.size W1 w2) := HB1.out.trans (hb2.mono HB1.out.size)
      clear hb2 d0 d1 d2 d3
      cases hF : fitsB (dirF kp.reverse (tn.take k)) (y0, y1, y2, y3, ()) with
      | false =>
        have EE : Hid (V = false) := Hno.out (fun h => by
          have h6 := turnsOkI_take h.2 (k + 1)
          rw [HT.out] at h6
          have h7 := (fitsB_iff _ _).2 (turnsOkI_snoc.1 h6).2.2
          rw [hF] at h7; cases h7)
        go_wp2
        go_ret
        exact ⟨by rw [EE.out]; rfl, b2⟩
      | true =>
      obtain ⟨d0, d1, d2, d3⟩ := BT.out w2 HB2.out
      go_wp2_with fail
      refine (qM.out _ HB2.out).mono ?_
      rintro e w3 ⟨rfl, hm3, hg3⟩
      rw [← dirF_snoc, ← HT.out] at hm3
      have b3 : Below w.heap.size w w3 := b2.grown hg3 b2.size (fun y h => by cases h; exact hbw)
      have HM3 : Hid (MapIs w3 b (n4 + (k + 1)) (dirF kp.reverse (tn.take (k + 1))) ∧ turnsOkI kp.reverse (tn.take (k + 1))) := ⟨hm3, by rw [HT.out]; exact turnsOkI_snoc.2 ⟨hM.out.2, (okIB_iff _).1 hO, (fitsB_iff _ _).1 hF⟩⟩
      clear hm3 hg3 hM d0 d1 d2 d3 hO hF
      go_wp2
      go_roundw
      case rel => exact ⟨k + 1, by omega, by go_num, HM3, b3⟩
      case measure => simp [intOf]; omega
    · have EE : Hid (V = true) := Hyes.out ⟨by have := HL.out.2; omega, by
        have h2 := hM.out.2
        rw [List.take_of_length_le (by have := HL.out.2; omega)] at h2
        exact h2⟩
      clear hM
      go_wp2
      go_ret
      exact ⟨by rw [EE.out]; rfl, hbel⟩

end Go.Proofs.YtkaegbhmeonjfaaGreat

/- SortI: slices.Sort of ints of the call's own; idsOk's closure; slices.EqualFunc at it. -/
namespace Go.Proofs.YtkaegbhmeonjfaaGreat
open Go.RowKit Go.Sort
set_option linter.unusedVariables false
set_option maxRecDepth 100000

def sortN (l : List Int) : List Int := l.mergeSort fun x y => decide (x ≤ y)
theorem sortN_len (l : List Int) : (sortN l).length = l.length := List.length_mergeSort _

theorem reads_holds {w : World} {g m cap : Nat} {l : List Int} (hl : l.length = m) (hg : g < w.heap.size) (hc : m ≤ cap) (hm : cap ≤ maxLen) (h : Holds (Value.int .i64) w g 0 l.toArray) : Reads (.sl .int) w [.slice (some ⟨g, 0, none⟩) m cap] l := by
  refine ⟨some ⟨g, 0, none⟩, cap, by show _ = [Value.slice _ l.length cap]; rw [hl], by show l.length ≤ cap; omega, hm, .inr ⟨g, 0, rfl, hg, fun i x hi => ?_⟩⟩
  have hx : l[i]? = some x := hi
  have hil : i < l.length := by
    rcases Nat.lt_or_ge i l.length with h' | h'
    · exact h'
    · rw [List.getElem?_eq_none h'] at hx; cases hx
  have h1 := (h i (by simpa using hil)).1
  refine ⟨[.int .i64 x], rfl, fun j hj => ?_, rfl⟩
  have hj0 : j = 0 := by have : (Sh.int).size = 1 := rfl; omega
  subst hj0
  have e : l.toArray[i]! = x := by
    rw [List.getElem?_eq_getElem hil] at hx
    simp [getElem!_pos, hil, Option.some.inj hx]
    rfl
  rw [e] at h1
  simpa [Sh.size_int] using h1

theorem holds_own {w : World} {B g m cap : Nat} {l : List Int} (hl : l.length = m) (h : w.ownsRow B 3 1 (.slice (some ⟨g, 0, none⟩) m cap) m (l.map (Value.int .i64))) : Holds (Value.int .i64) w g 0 l.toArray := by
  intro j hj
  have hjl : j < l.length := by simpa using hj
  refine ⟨?_, ?_⟩
  · rw [Nat.zero_add, h.cellAt j (by omega)]
    simp [hjl]
  · rw [Nat.zero_add]; exact h.frozenAt j

theorem sort_grown (w : World) (n g : Nat) (d : Array Int) (os : Array Obj) : w.grownBy (grow (putRow (Value.int .i64) (Sort.ahead w n) g 0 d) os) (some g) := by
  refine ⟨rfl, rfl, rfl, ?_, fun k hk hne => ?_⟩
  · simp [grow, putRow, mapBlock, Sort.ahead]
  · have hkg : g ≠ k := fun e => hne (by rw [e])
    rw [heap_grow_old _ _ (by simpa [putRow, mapBlock, Sort.ahead] using hk)]
    simp [putRow, mapBlock, Sort.ahead, Array.getElem?_modify, hkg]

theorem sortInts_ok (B g m cap : Nat) (l : List Int) (w : World) (hl : l.length = m) (hs : m < 4611686018427387904) (h : w.ownsRow B 3 1 (.slice (some ⟨g, 0, none⟩) m cap) m (l.map (Value.int .i64))) :
    Calls Tryz.prog 119 #[.slice (some ⟨g, 0, none⟩) m cap] w fun e w' => e = .returned (.tuple #[]) ∧ Reads (.sl .int) w' [.slice (some ⟨g, 0, none⟩) m cap] (sortN l) ∧ w.grownBy w' (some g) := by
  have hH := holds_own hl h
  have hg := (h.lt g rfl).2
  subst hl
  refine (Tryz.slices_Sort_int g 0 cap l w hH hg hs).mono ?_
  rintro e w' ⟨rfl, n, os, rfl⟩
  refine ⟨rfl, ?_, sort_grown w n g _ os⟩
  have hsz : g < (putRow (Value.int .i64) (Sort.ahead w n) g 0 (sortN l).toArray).heap.size := by simpa [putRow, mapBlock, Sort.ahead] using hg
  have h2 := holds_grow (Value.int .i64) _ os g 0 _ hsz (holds_putRow (Value.int .i64) (Sort.ahead w n) g 0 l.toArray (sortN l).toArray (holds_ahead _ w n g 0 _ hH) (by simp [sortN_len]))
  obtain ⟨hc1, hc2⟩ : l.length ≤ cap ∧ cap ≤ maxLen := by
    rcases h.2 with ⟨h1, _⟩ | ⟨g', cap', cur, hv, _, _, h1, h2, _⟩
    · simp at h1
    · simp only [Value.slice.injEq, Option.some.injEq, Addr.mk.injEq, and_true, true_and] at hv
      obtain ⟨rfl, rfl⟩ := hv
      exact ⟨h1, h2⟩
  refine reads_holds (sortN_len l) ?_ hc1 hc2 h2
  show g < (grow (putRow (Value.int .i64) (Sort.ahead w n) g 0 (sortN l).toArray) os).heap.size
  rw [show (grow (putRow (Value.int .i64) (Sort.ahead w n) g 0 (sortN l).toArray) os).heap.size = (putRow (Value.int .i64) (Sort.ahead w n) g 0 (sortN l).toArray).heap.size + os.size by simp [grow]]
  omega

theorem idsClosure_ok (id y0 : Int) (p1 : Option Addr) (m1 k1 : Nat) (p2 : Option Addr) (m2 k2 : Nat) (w : World) :
    Calls Tryz.prog 121 #[.int .i64 id, .agg #[.int .i64 y0, .slice p1 m1 k1, .slice p2 m2 k2]] w fun e w' => e = .returned (.bool (id == y0)) ∧ Below w.heap.size w w' := by
  go_enter Tryz.func121, Tryz.ntmps121
  go_wp2
  go_ret
  exact ⟨rfl, (Below.refl _ _).alloc (Nat.le_refl _) _⟩

theorem nodeIds_get (nd : List NodeD) (k : Nat) (hk : k < nd.length) (h2 : k < (nodeIds nd).length) : (nodeIds nd)[k] = (nd[k]).1 := by simp [nodeIds]
theorem get_congr {l m : List Int} (h : l = m) (k : Nat) (h1 : k < l.length) (h2 : k < m.length) : l[k] = m[k] := by subst h; rfl
theorem eqTo_succ {l m : List Int} {k : Nat} (h : l.take k = m.take k) (h1 : k < l.length) (h2 : k < m.length) (e : l[k] = m[k]) : l.take (k + 1) = m.take (k + 1) := by
  rw [List.take_succ_eq_append_getElem h1, List.take_succ_eq_append_getElem h2, h, e]

set_option maxRecDepth 100000 in
set_option maxHeartbeats 2000000 in
theorem equalFunc_ok (a1 : Option Addr) (n1 c1 : Nat) (l : List Int) (a2 : Option Addr) (n2 c2 : Nat) (nd : List NodeD) (w : World) (hr1 : Reads (.sl .int) w [.slice a1 n1 c1] l) (hr2 : Reads (.sl shNode) w [.slice a2 n2 c2] nd) :
    Calls Tryz.prog 120 #[.slice a1 n1 c1, .slice a2 n2 c2, .func (.func 121) #[] #[]] w fun e w' => e = .returned (.bool (decide (l = nodeIds nd))) ∧ Below w.heap.size w w' := by
  obtain ⟨hl1, hc1, hd1⟩ := reads_len hr1
  obtain ⟨hl2, hc2, hd2⟩ := reads_len hr2
  have hl1' : List.length (α := Int) l = n1 := hl1
  have hl2' : List.length (α := NodeD) nd = n2 := hl2
  have hl3 : (nodeIds nd).length = n2 := by unfold nodeIds; rw [List.length_map]; exact hl2'
  unfold maxLen at hd1 hd2
  have HR : Hid (Reads (.sl .int) w [.slice a1 n1 c1] l ∧ Reads (.sl shNode) w [.slice a2 n2 c2] nd) := ⟨hr1, hr2⟩
  have HL : Hid (l.length = n1 ∧ (nodeIds nd).length = n2 ∧ nd.length = n2) := ⟨hl1', hl3, hl2'⟩
  obtain ⟨V, hV⟩ : ∃ V, V = decide (l = nodeIds nd) := ⟨_, rfl⟩
  have Hno : Hid (l ≠ nodeIds nd → V = false) := fun h => by rw [hV]; exact decide_eq_false h
  have Hyes : Hid (l = nodeIds nd → V = true) := fun h => by rw [hV]; exact decide_eq_true h
  rw [← hV]
  clear hr1 hr2 hl1 hl2 hl1' hl2' hl3 hV
  by_cases hn : n1 = n2
  rotate_left
  · have EE : Hid (V = false) := Hno.out (fun h => hn (by have h1 := HL.out.1; rw [h] at h1; exact h1.symm.trans HL.out.2.1))
    have hq : ((n1 : Int) == (n2 : Int)) = false := by simp; omega
    go_enter Tryz.func120, Tryz.ntmps120
    go_wp2
    go_ret
    exact ⟨by rw [EE.out]; rfl, Below.refl _ _⟩
  subst hn
  have hq : ((n1 : Int) == (n1 : Int)) = true := by simp
  go_enter Tryz.func120, Tryz.ntmps120
  go_wp2
  go_loopw [17] (fun i wr => ∃ k : Nat, k ≤ n1 ∧ i = .int .i64 k ∧ Hid (l.take k = (nodeIds nd).take k) ∧ Below w.heap.size w wr) (fun i _ => n1 - (intOf i).toNat)
  case atStart => exact ⟨0, Nat.zero_le _, rfl, rfl, Below.refl _ _⟩
  case round =>
    obtain ⟨k, hk, rfl, hx0, hbel⟩ := hrel
    have hbs := hbel.size
    by_cases hlt : k < n1
    · obtain ⟨b1, o1, cc1, y, rfl, hb1, hy, hry, hcell1⟩ := reads_elem HR.out.1 k hlt
      obtain ⟨hkd1, hye⟩ := at_some' hy
      obtain ⟨z, hz⟩ : ∃ z : Int, z = y := ⟨_, rfl⟩
      have hyc : cc1 = [.int .i64 z] := by rw [hz]; exact hry
      subst hyc
      have f0 : wr.cell? ⟨b1, o1 + k, none⟩ = some (.int .i64 z) := by
        have h := hcell1 0 (by decide)
        refine (hbel.cell (p := ⟨b1, o1 + k, none⟩) hb1).trans ?_
        simpa [Sh.size_int] using h
      obtain ⟨b, off, cc, x, rfl, hb, hx, hrx, hcell⟩ := reads_elem HR.out.2 k hlt
      obtain ⟨p1, m1, k1, p2, m2, k2, rfl, _, _⟩ := open_Node hrx
      obtain ⟨hkd, hxe⟩ := at_some' hx
      obtain ⟨y0, ey0⟩ : ∃ y : Int, y = x.1 := ⟨_, rfl⟩
      have g0 : wr.cell? ⟨b, off + k * 3, none⟩ = some (.int .i64 y0) := by rw [ey0]; exact (hbel.cell (p := ⟨b, off + (k * 3 + 0), none⟩) hb).trans (hcell 0 (by decide))
      have g1 : wr.cell? ⟨b, off + k * 3 + 1, none⟩ = some (.slice p1 m1 k1) := (hbel.cell (p := ⟨b, off + (k * 3 + 1), none⟩) hb).trans (hcell 1 (by decide))
      have g2 : wr.cell? ⟨b, off + k * 3 + 2, none⟩ = some (.slice p2 m2 k2) := (hbel.cell (p := ⟨b, off + (k * 3 + 2), none⟩) hb).trans (hcell 2 (by decide))
      have h2 : k < (nodeIds nd).length := by rw [HL.out.2.1]; exact hlt
      have HY : Hid ((l[k]'hkd1) = z ∧ ((nodeIds nd)[k]'h2) = y0) := by
        refine ⟨hye.trans hz.symm, ?_⟩
        rw [ey0]; exact (nodeIds_get nd k hkd h2).trans (congrArg Prod.fst hxe)
      have bA : Below w.heap.size w (wr.alloc (.cells #[.int .i64 y0, .slice p1 m1 k1, .slice p2 m2 k2] 70)) := hbel.alloc hbs _
      clear hcell hrx hx hxe ey0 hcell1 hry hy hye hz
      go_wp2_with fail
      refine (idsClosure_ok _ _ _ _ _ _ _ _ _).mono ?_
      rintro e w1 ⟨rfl, hb1'⟩
      have b1' := bA.trans (hb1'.mono bA.size)
      clear hb1' g0 g1 g2 f0
      cases hzy : (z == y0) with
      | false =>
        have EE : Hid (V = false) := Hno.out (fun h => by
          have h1 : z = y0 := HY.out.1.symm.trans ((get_congr h k hkd1 h2).trans HY.out.2)
          simp [h1] at hzy)
        clear hx0
        go_wp2
        go_ret
        exact ⟨by rw [EE.out]; rfl, b1'⟩
      | true =>
        have HX : Hid (l.take (k + 1) = (nodeIds nd).take (k + 1)) := eqTo_succ hx0.out hkd1 h2 (by rw [HY.out.1, HY.out.2]; simpa using hzy)
        clear hx0 HY
        go_wp2
        go_roundw
        case rel => exact ⟨k + 1, by omega, by go_num, HX, b1'⟩
        case measure => simp [intOf]; omega
    · have EE : Hid (V = true) := Hyes.out (by
        have h := hx0.out
        rw [List.take_of_length_le (by have := HL.out.1; omega), List.take_of_length_le (by have := HL.out.2.1; omega)] at h
        exact h)
      clear hx0
      go_wp2
      go_ret
      exact ⟨by rw [EE.out]; rfl, hbel⟩

end Go.Proofs.YtkaegbhmeonjfaaGreat

/- IdsI: idsOk of the program. -/
namespace Go.Proofs.YtkaegbhmeonjfaaGreat
open Go.RowKit
set_option linter.unusedVariables false
set_option maxRecDepth 100000

set_option maxRecDepth 100000 in
set_option maxHeartbeats 2000000 in
theorem idsOk_ok (cs : List Value) (d : shDisk.D) (w : World) (hr : Reads shDisk w cs d) (hs : shDisk.sz d ≤ 1048576) :
    Calls Tryz.prog 88 #[.agg cs.toArray] w fun e w' => e = .returned (.bool (decide (sortN (idsL d.2.2.2.2.1 d.2.2.2.2.2.1) = nodeIds d.2.2.2.1))) ∧ Below w.heap.size w w' := by
  obtain ⟨i0, hi, hz0, hz1, hz2⟩ := info_parts infoI
  obtain ⟨a3, n3, c3, a4, n4, c4, a5, n5, c5, rfl, r3, r4, r5⟩ := open_Disk hr
  obtain ⟨x0, e0⟩ : ∃ x : Int, x = d.1 := ⟨_, rfl⟩
  obtain ⟨x1, e1⟩ : ∃ x : Int, x = d.2.1 := ⟨_, rfl⟩
  obtain ⟨x2, e2⟩ : ∃ x : Int, x = d.2.2.1 := ⟨_, rfl⟩
  rw [sz_Disk] at hs
  obtain ⟨kp, hkp⟩ : ∃ l : List LinkD, l = d.2.2.2.2.1 := ⟨_, rfl⟩
  obtain ⟨tn, htn⟩ : ∃ l : List TurnD, l = d.2.2.2.2.2.1 := ⟨_, rfl⟩
  obtain ⟨nd, hnd⟩ : ∃ l : List NodeD, l = d.2.2.2.1 := ⟨_, rfl⟩
  have l4 : kp.length = n4 := by rw [hkp]; exact (reads_len r4).1
  have l5 : tn.length = n5 := by rw [htn]; exact (reads_len r5).1
  have s4 : n4 ≤ Sh.sz (.sl shLink) d.2.2.2.2.1 := by rw [← l4, hkp]; exact Nat.le_add_right _ _
  have s5 : n5 ≤ Sh.sz (.sl shTurn) d.2.2.2.2.2.1 := by rw [← l5, htn]; exact Nat.le_add_right _ _
  have hn45 : n4 + n5 ≤ 1048576 := by omega
  rw [← hnd] at r3 ⊢
  rw [← hkp] at r4 ⊢
  rw [← htn] at r5 ⊢
  rw [← e0, ← e1, ← e2]
  have HR : Hid (Reads (.sl shLink) w [.slice a4 n4 c4] kp ∧ Reads (.sl shTurn) w [.slice a5 n5 c5] tn ∧ Reads (.sl shNode) w [.slice a3 n3 c3] nd) := ⟨r4, r5, r3⟩
  obtain ⟨V, hV⟩ : ∃ V, V = decide (sortN (idsL kp tn) = nodeIds nd) := ⟨_, rfl⟩
  have HV : Hid (V = decide (sortN (idsL kp tn) = nodeIds nd)) := hV
  rw [← hV]
  have HL : Hid (kp.length = n4 ∧ tn.length = n5) := ⟨l4, l5⟩
  obtain ⟨W0, hW0⟩ : ∃ W0, W0 = w.alloc (.cells #[.int .i64 x0, .int .i64 x1, .int .i64 x2, .slice a3 n3 c3, .slice a4 n4 c4, .slice a5 n5 c5] 33) := ⟨_, rfl⟩
  have bW0 : Below w.heap.size w W0 := by rw [hW0]; exact (Below.refl _ _).alloc (Nat.le_refl _) _
  have hbox : W0.heap[w.heap.size]? = some (.cells #[.int .i64 x0, .int .i64 x1, .int .i64 x2, .slice a3 n3 c3, .slice a4 n4 c4, .slice a5 n5 c5] 33 (0, 0)) := by rw [hW0]; exact heap_alloc_new w _
  have zW0 : W0.heap.size = w.heap.size + 1 := by rw [hW0]; simp
  have ZW0 : Hid (W0.heap.size = w.heap.size + 1) := zW0
  have HW0 : Hid (W0 = w.alloc (.cells #[.int .i64 x0, .int .i64 x1, .int .i64 x2, .slice a3 n3 c3, .slice a4 n4 c4, .slice a5 n5 c5] 33)) := hW0
  have BX : Hid (∀ w', Below W0.heap.size W0 w' → w'.cell? ⟨w.heap.size, 5, none⟩ = some (.slice a5 n5 c5) ∧ w'.cell? ⟨w.heap.size, 3, none⟩ = some (.slice a3 n3 c3)) := fun w' h' => ⟨box_cell ((h'.block _ (by omega)).trans hbox) rfl, box_cell ((h'.block _ (by omega)).trans hbox) rfl⟩
  have hown0 := World.ownsRow_nil W0 W0.heap.size 3 1
  clear hr hs r3 r4 r5 e0 e1 e2 hnd hkp htn l4 l5 s4 s5 hW0 hbox zW0 hV
  go_enter Tryz.func88, Tryz.ntmps88
  go_wp2
  rw [← HW0.out]
  go_loopw [3, 11] (fun v i wr => ∃ (vv : Value) (k m : Nat) (xs : List Int), vv = v ∧ k ≤ n4 ∧ i = .int .i64 k ∧ wr.ownsRow W0.heap.size 3 1 vv m (xs.map (Value.int .i64)) ∧ Below W0.heap.size W0 wr ∧ Hid (xs = keptIds (kp.take k) ∧ xs.length = m) ∧ m ≤ k) (fun _ i _ => n4 - (intOf i).toNat)
  case atStart => exact ⟨_, 0, 0, [], rfl, Nat.zero_le _, rfl, hown0, Below.refl _ _, ⟨by simp [keptIds], rfl⟩, Nat.le_refl _⟩
  case round =>
    obtain ⟨vv, k, m, xs, rfl, hk, rfl, hown, hbel, hx0, hxl⟩ := hrel
    have hbs := hbel.size
    have hg : Hid (∀ g, vv.ownBlock = some g → W0.heap.size ≤ g) := fun g h => (hown.lt g h).1
    by_cases hlt : k < n4
    · obtain ⟨b, off, cc, x, rfl, hb, hx, hrx, hcell⟩ := reads_elem HR.out.1 k hlt
      obtain ⟨rfl, _⟩ := open_Link hrx
      obtain ⟨hkd, hxe⟩ := at_some' hx
      have hst := keptIds_take kp k hkd x hxe
      obtain ⟨y0, ey0⟩ : ∃ y : ByteArray, y = x.1 := ⟨_, rfl⟩
      obtain ⟨y1, ey1⟩ : ∃ y : Int, y = x.2.1 := ⟨_, rfl⟩
      have bw := bW0.trans (hbel.mono bW0.size)
      have g0 : wr.cell? ⟨b, off + k * 2, none⟩ = some (.string y0) := by rw [ey0]; exact (bw.cell (p := ⟨b, off + (k * 2 + 0), none⟩) hb).trans (hcell 0 (by decide))
      have g1 : wr.cell? ⟨b, off + k * 2 + 1, none⟩ = some (.int .i64 y1) := by rw [ey1]; exact (bw.cell (p := ⟨b, off + (k * 2 + 1), none⟩) hb).trans (hcell 1 (by decide))
      have bA : Below W0.heap.size W0 (wr.alloc (.cells #[.string y0, .int .i64 y1] 111)) := hbel.alloc hbs _
      have oA : (wr.alloc (.cells #[.string y0, .int .i64 y1] 111)).ownsRow W0.heap.size 3 1 vv m (xs.map (Value.int .i64)) := hown.alloc _
      rw [← ey1] at hst
      have HX : Hid (xs ++ [y1] = keptIds (kp.take (k + 1)) ∧ (xs ++ [y1]).length = m + 1) := ⟨by rw [hst, hx0.out.1], by rw [List.length_append, hx0.out.2]; rfl⟩
      clear hcell hrx hx hxe ey0 ey1 hst hx0 hown bw
      go_wp2_with (at_builtin; refine wpList_append_lies _ rfl _ _ 27 rfl W0.heap.size 3 i0 (.int .i64 0) 1 8 Tryz.underlying27 hi hz0 hz1 hz2 rfl (by decide) _ m _ rfl (oA.alloc _) ⟨_, 0, none⟩ 1 _ [.int .i64 y1] rfl rfl ?c1 ?c2 (by omega) ?c3 ?c4 ?c5 _ rfl ?_)
      case c1 => exact cells_new' _ _ _ _ (by simp)
      case c2 => intro u hu; simp at hu; rcases hu with rfl; rfl
      case c3 => unfold maxLen; omega
      case c4 => omega
      case c5 => simp; omega
      intro gg cap1 w3 hown3 hgrow3 _ _
      have bB := bA.alloc (o := .cells #[.int .i64 y1] 3) bA.size
      have hbel3 : Below W0.heap.size W0 w3 := bB.grown hgrow3 bB.size (fun y h => hg.out y h)
      rw [ints_snoc] at hown3
      clear hgrow3 oA bA bB g0 g1
      go_wp2
      go_roundw
      case rel => exact ⟨_, k + 1, m + 1, xs ++ [y1], rfl, by omega, by go_num, hown3, hbel3, HX, by omega⟩
      case measure => simp [intOf]; omega
    · have e : k = n4 := by omega
      have HE : Hid (xs = keptIds kp ∧ xs.length = m) := ⟨by rw [hx0.out.1, List.take_of_length_le (by have := HL.out.1; omega)], hx0.out.2⟩
      have hm4 : m ≤ n4 := by omega
      obtain ⟨c5x, c3x⟩ := BX.out wr hbel
      clear hx0 hxl
      go_wp2
      go_loopw [3, 24] (fun v i wr => ∃ (vv : Value) (k m : Nat) (xs : List Int), vv = v ∧ k ≤ n5 ∧ i = .int .i64 k ∧ wr.ownsRow W0.heap.size 3 1 vv m (xs.map (Value.int .i64)) ∧ Below W0.heap.size W0 wr ∧ Hid (xs = keptIds kp ++ madeIds (tn.take k) ∧ xs.length = m) ∧ m ≤ n4 + k) (fun _ i _ => n5 - (intOf i).toNat)
      case atStart => exact ⟨_, 0, m, xs, rfl, Nat.zero_le _, rfl, hown, hbel, ⟨by rw [HE.out.1]; simp [madeIds], HE.out.2⟩, by omega⟩
      case round =>
        clear hown hbel hbs hg HE hm4 c5x c3x hlt e hk
        obtain ⟨vv, k, m, xs, rfl, hk, rfl, hown, hbel, hx0, hxl⟩ := hrel
        have hbs := hbel.size
        have hg : Hid (∀ g, vv.ownBlock = some g → W0.heap.size ≤ g) := fun g h => (hown.lt g h).1
        by_cases hlt : k < n5
        · obtain ⟨b, off, cc, x, rfl, hb, hx, hrx, hcell⟩ := reads_elem HR.out.2.1 k hlt
          obtain ⟨rfl, _⟩ := open_Turn hrx
          obtain ⟨hkd, hxe⟩ := at_some' hx
          have hst := madeIds_take tn k hkd x hxe
          obtain ⟨y0, ey0⟩ : ∃ y : Int, y = x.1 := ⟨_, rfl⟩
          obtain ⟨y1, ey1⟩ : ∃ y : ByteArray, y = x.2.1 := ⟨_, rfl⟩
          obtain ⟨y2, ey2⟩ : ∃ y : ByteArray, y = x.2.2.1 := ⟨_, rfl⟩
          obtain ⟨y3, ey3⟩ : ∃ y : Int, y = x.2.2.2.1 := ⟨_, rfl⟩
          have bw := bW0.trans (hbel.mono bW0.size)
          have g0 : wr.cell? ⟨b, off + k * 4, none⟩ = some (.int .i64 y0) := by rw [ey0]; exact (bw.cell (p := ⟨b, off + (k * 4 + 0), none⟩) hb).trans (hcell 0 (by decide))
          have g1 : wr.cell? ⟨b, off + k * 4 + 1, none⟩ = some (.string y1) := by rw [ey1]; exact (bw.cell (p := ⟨b, off + (k * 4 + 1), none⟩) hb).trans (hcell 1 (by decide))
          have g2 : wr.cell? ⟨b, off + k * 4 + 2, none⟩ = some (.string y2) := by rw [ey2]; exact (bw.cell (p := ⟨b, off + (k * 4 + 2), none⟩) hb).trans (hcell 2 (by decide))
          have g3 : wr.cell? ⟨b, off + k * 4 + 3, none⟩ = some (.int .i64 y3) := by rw [ey3]; exact (bw.cell (p := ⟨b, off + (k * 4 + 3), none⟩) hb).trans (hcell 3 (by decide))
          have bA : Below W0.heap.size W0 (wr.alloc (.cells #[.int .i64 y0, .string y1, .string y2, .int .i64 y3] 93)) := hbel.alloc hbs _
          have oA : (wr.alloc (.cells #[.int .i64 y0, .string y1, .string y2, .int .i64 y3] 93)).ownsRow W0.heap.size 3 1 vv m (xs.map (Value.int .i64)) := hown.alloc _
          rw [← ey0, ← ey3] at hst
          by_cases hq : y0 = 1
          · rw [if_pos hq] at hst
            have HX : Hid (xs ++ [y3] = keptIds kp ++ madeIds (tn.take (k + 1)) ∧ (xs ++ [y3]).length = m + 1) := ⟨by rw [hst, hx0.out.1, List.append_assoc], by rw [List.length_append, hx0.out.2]; rfl⟩
            subst hq
            clear hcell hrx hx hxe ey0 ey1 ey2 ey3 hst hx0 hown bw
            go_wp2_with (at_builtin; refine wpList_append_lies _ rfl _ _ 27 rfl W0.heap.size 3 i0 (.int .i64 0) 1 8 Tryz.underlying27 hi hz0 hz1 hz2 rfl (by decide) _ m _ rfl (oA.alloc _) ⟨_, 0, none⟩ 1 _ [.int .i64 y3] rfl rfl ?c1 ?c2 (by omega) ?c3 ?c4 ?c5 _ rfl ?_)
            case c1 => exact cells_new' _ _ _ _ (by simp)
            case c2 => intro u hu; simp at hu; rcases hu with rfl; rfl
            case c3 => unfold maxLen; omega
            case c4 => omega
            case c5 => simp; omega
            intro gg cap1 w3 hown3 hgrow3 _ _
            have bB := bA.alloc (o := .cells #[.int .i64 y3] 3) bA.size
            have hbel3 : Below W0.heap.size W0 w3 := bB.grown hgrow3 bB.size (fun y h => hg.out y h)
            rw [ints_snoc] at hown3
            clear hgrow3 oA bA bB g0 g1 g2 g3
            go_wp2
            go_roundw
            case rel => exact ⟨_, k + 1, m + 1, xs ++ [y3], rfl, by omega, by go_num, hown3, hbel3, HX, by omega⟩
            case measure => simp [intOf]; omega
          · rw [if_neg hq] at hst
            have HX : Hid (xs = keptIds kp ++ madeIds (tn.take (k + 1)) ∧ xs.length = m) := ⟨by rw [hst, hx0.out.1], hx0.out.2⟩
            have hq' : (y0 == 1) = false := by simp [hq]
            clear hcell hrx hx hxe ey0 ey1 ey2 ey3 hst hx0 hown bw
            go_wp2
            go_roundw
            case rel => exact ⟨_, k + 1, m, xs, rfl, by omega, by go_num, oA, bA, HX, by omega⟩
            case measure => simp [intOf]; omega
        · have HE : Hid (xs = idsL kp tn ∧ xs.length = m) := ⟨by rw [hx0.out.1, List.take_of_length_le (by have := HL.out.2; omega)]; rfl, hx0.out.2⟩
          have bw := bW0.trans (hbel.mono bW0.size)
          clear hx0
          have q3x := (BX.out wr hbel).2
          have zlt0 : w.heap.size < W0.heap.size := by have := ZW0.out; omega
          rcases hown.2 with ⟨hv, h0⟩ | ⟨g, cap, cur, hv, hB, _⟩
          · subst hv
            have hxs : xs = [] := List.eq_nil_of_length_eq_zero (by rw [HE.out.2]; exact h0)
            have qE : Hid (Calls Tryz.prog 120 #[.slice none 0 0, .slice a3 n3 c3, .func (.func 121) #[] #[]] wr fun e w' => e = .returned (.bool V) ∧ Below wr.heap.size wr w') := by
              have h := equalFunc_ok none 0 0 [] a3 n3 c3 nd wr ⟨none, 0, rfl, Nat.le_refl _, Nat.zero_le _, .inl rfl⟩ (HR.out.2.2.later bw)
              have e1 : sortN (idsL kp tn) = [] := by rw [← HE.out.1, hxs]; simp [sortN]
              have e2 := HV.out
              rw [e1] at e2
              rw [e2]; exact h
            clear HV
            go_wp2_with fail
            refine (Tryz.slices_Sort_int_none _ _ _).mono ?_
            rintro e w2 ⟨rfl, rfl⟩
            go_wp2_with fail
            refine qE.out.mono ?_
            rintro e w3 ⟨rfl, hb3⟩
            have b3 := bw.trans (hb3.mono bw.size)
            clear hb3
            go_wp2
            go_ret
            exact ⟨rfl, b3⟩
          · subst hv
            have qS : Hid (Calls Tryz.prog 119 #[.slice (some ⟨g, 0, none⟩) m cap] wr fun e w' => e = .returned (.tuple #[]) ∧ Reads (.sl .int) w' [.slice (some ⟨g, 0, none⟩) m cap] (sortN xs) ∧ wr.grownBy w' (some g)) := sortInts_ok W0.heap.size g m cap xs wr HE.out.2 (by omega) hown
            go_wp2_with fail
            refine qS.out.mono ?_
            rintro e w2 ⟨rfl, hr2, hg2⟩
            have b2 : Below W0.heap.size W0 w2 := hbel.grown hg2 hbs (fun y h => by cases h; exact hB)
            have bw2 := bW0.trans (b2.mono bW0.size)
            have q3y := (BX.out w2 b2).2
            have qE : Hid (Calls Tryz.prog 120 #[.slice (some ⟨g, 0, none⟩) m cap, .slice a3 n3 c3, .func (.func 121) #[] #[]] w2 fun e w' => e = .returned (.bool V) ∧ Below w2.heap.size w2 w') := by
              have h := equalFunc_ok _ m cap (sortN xs) a3 n3 c3 nd w2 hr2 (HR.out.2.2.later bw2)
              have e2 := HV.out
              rw [← HE.out.1] at e2
              rw [e2]; exact h
            clear hr2 hg2 q3x
            go_wp2_with fail
            refine qE.out.mono ?_
            rintro e w3 ⟨rfl, hb3⟩
            have b3 := bw2.trans (hb3.mono bw2.size)
            clear hb3
            go_wp2
            go_ret
            exact ⟨rfl, b3⟩

end Go.Proofs.YtkaegbhmeonjfaaGreat
