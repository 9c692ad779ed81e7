/-
  VtOk of the program. By program (vtokgen.py).
-/
import Derived.Test.YtojalheohpkdoaaDoorVtP
import Derived.Test.YtojalheohpkdoaaDoorGrG
import Derived.Test.YtojalheohpkdoaaDoorRbgI
namespace Go.Proofs.YtojalheohpkdoaaDoor
open Go.RowKit
set_option linter.unusedVariables false
set_option linter.unusedSimpArgs false


theorem bel_dr {B : Nat} {x w : World} (h : Below B x w) (q : Nat) : Below B x (w.drewN q) := ⟨h.os, h.tape, h.output, h.size, h.block⟩

set_option maxHeartbeats 1000000 in
theorem stateOk_any (s : Int) (w : World) :
    Calls Tryd.prog 26 #[.int .i64 s] w fun e w' => e = .returned (.bool (statB s)) ∧ w' = w := by
  by_cases h0 : s = 0
  · subst h0
    go_enter Tryd.func26, Tryd.ntmps26
    go_wp2
    go_ret
    exact ⟨rfl, rfl⟩
  · have d0 : (s == 0) = false := by simpa using h0
    by_cases h1 : s = 1
    · subst h1
      go_enter Tryd.func26, Tryd.ntmps26
      go_wp2
      go_ret
      exact ⟨rfl, rfl⟩
    · have d1 : (s == 1) = false := by simpa using h1
      by_cases h2 : s = 2
      · subst h2
        go_enter Tryd.func26, Tryd.ntmps26
        go_wp2
        go_ret
        exact ⟨rfl, rfl⟩
      · have d2 : (s == 2) = false := by simpa using h2
        have E : Hid (statB s = false) := stat_no (by omega)
        clear h0 h1 h2
        go_enter Tryd.func26, Tryd.ntmps26
        go_wp2
        go_ret
        exact ⟨by rw [E.out]; rfl, rfl⟩

set_option maxRecDepth 100000 in
set_option maxHeartbeats 4000000 in
theorem argsOk_any (x0 x1 x3 x4 st be : Int) (x5 : Bool) (a2 a7 a8 : Option Addr) (n2 c2 n7 c7 n8 c8 : Nat) (ag : List Int) (w : World) (hr : Reads (.sl .int) w [.slice a7 n7 c7] ag) :
    Calls Tryd.prog 27 #[.agg #[.int .i64 x0, .int .i64 x1, .slice a2 n2 c2, .int .i64 x3, .int .i64 x4, .bool x5, .int .i64 st, .slice a7 n7 c7, .slice a8 n8 c8, .int .i64 be]] w fun e w' => e = .returned (.bool (argsB ag st)) ∧ Below w.heap.size w w' := by
  obtain ⟨hl, hrd, hc, hm⟩ := reads_ints hr
  unfold maxLen at hm
  have HR : Hid (RdI w a7 ag ∧ ag.length = n7) := ⟨hrd, hl⟩
  clear hr hl hrd
  obtain ⟨W0, hW0⟩ : ∃ W0, W0 = w.alloc (.cells #[.int .i64 x0, .int .i64 x1, .slice a2 n2 c2, .int .i64 x3, .int .i64 x4, .bool x5, .int .i64 st, .slice a7 n7 c7, .slice a8 n8 c8, .int .i64 be] 32) := ⟨_, rfl⟩
  have bW0 : Below w.heap.size w W0 := by rw [hW0]; exact (Below.refl _ _).alloc (Nat.le_refl _) _
  have hbox : W0.heap[w.heap.size]? = some (.cells #[.int .i64 x0, .int .i64 x1, .slice a2 n2 c2, .int .i64 x3, .int .i64 x4, .bool x5, .int .i64 st, .slice a7 n7 c7, .slice a8 n8 c8, .int .i64 be] 32 (0, 0)) := by rw [hW0]; exact heap_alloc_new w _
  have zW0 : W0.heap.size = w.heap.size + 1 := by rw [hW0]; simp
  have HW0 : Hid (W0 = _) := hW0
  have HBX : Hid (∀ w', Below W0.heap.size W0 w' → w'.heap[w.heap.size]? = some (.cells #[.int .i64 x0, .int .i64 x1, .slice a2 n2 c2, .int .i64 x3, .int .i64 x4, .bool x5, .int .i64 st, .slice a7 n7 c7, .slice a8 n8 c8, .int .i64 be] 32 (0, 0))) := fun w' h => (h.block _ (by omega)).trans hbox
  clear hW0 hbox
  have HB0 : Hid (Below w.heap.size w W0) := bW0
  go_enter Tryd.func27, Tryd.ntmps27
  go_wp2
  rw [← HW0.out]
  go_loopw [8] (fun i wr => ∃ k : Nat, k ≤ n7 ∧ i = .int .i64 k ∧ (∀ j, j < k → argB (ag[j]?.getD 0) = true) ∧ ∃ q, wr = W0.drewN q) (fun i _ => n7 - (intOf i).toNat)
  case atStart => exact ⟨0, Nat.zero_le _, rfl, fun j hj => by omega, 0, rfl⟩
  case round =>
    obtain ⟨k, hk, rfl, hall, q, rfl⟩ := hrel
    have HA : Hid (∀ j, j < k → argB (ag[j]?.getD 0) = true) := hall
    clear hall
    by_cases hlt : k < n7
    · have hne : ag ≠ [] := by intro h; have := HR.out.2; subst h; simp at this; omega
      obtain ⟨b, off, rfl, hb, hcell⟩ := HR.out.1.resolve_left hne
      obtain ⟨v, hv⟩ : ∃ v, v = ag[k]?.getD 0 := ⟨_, rfl⟩
      have g1 : (W0.drewN q).cell? ⟨b, off + k, none⟩ = some (.int .i64 v) := by rw [hv]; exact (HB0.out.cell (p := ⟨b, off + k, none⟩) hb).trans (hcell k (by have := HR.out.2; omega))
      have hlt' : (k : Int) < (n7 : Int) := by omega
      have HV : Hid (v = ag[k]?.getD 0) := hv
      clear hcell hne hv
      by_cases v1 : v < 0
      · have E : Hid (argsB ag st = false) := argsB_some (i := k) (by rw [HR.out.2]; exact hlt) (by rw [← HV.out]; unfold argB; rw [decide_eq_false (by omega)]; rfl)
        go_wp2
        go_ret
        exact ⟨by rw [E.out]; rfl, bel_dr HB0.out _⟩
      · by_cases v2 : 9999 < v
        · have E : Hid (argsB ag st = false) := argsB_some (i := k) (by rw [HR.out.2]; exact hlt) (by rw [← HV.out]; unfold argB; rw [decide_eq_false (p := v ≤ 9999) (by omega), Bool.and_false])
          go_wp2
          go_ret
          exact ⟨by rw [E.out]; rfl, bel_dr HB0.out _⟩
        · have HA2 : Hid (∀ j, j < k + 1 → argB (ag[j]?.getD 0) = true) := fun j hj => by
            by_cases e : j = k
            · subst e; rw [← HV.out]; unfold argB; rw [decide_eq_true (by omega), decide_eq_true (by omega)]; rfl
            · exact HA.out j (by omega)
          go_wp2
          go_roundw
          case rel => exact ⟨k + 1, by omega, by go_num, HA2.out, _, rfl⟩
          case measure => simp [intOf]; omega
    · have e : k = n7 := by omega
      subst e
      have EE : Hid (argsB ag st = (decide (ag.length = 0) || (decide (st = 2) && decide (ag.length ≤ 4)))) := argsB_all (fun i hi => HA.out i (by rw [← HR.out.2]; exact hi))
      have i1 := HBX.out (W0.drewN q) (bel_dr (Below.refl _ _) q)
      have y6 : (W0.drewN q).cell? ⟨w.heap.size, 6, none⟩ = some (.int .i64 st) := box_cell i1 rfl
      have y7 : (W0.drewN q).cell? ⟨w.heap.size, 7, none⟩ = some (.slice a7 k c7) := box_cell i1 rfl
      by_cases h0 : k = 0
      · subst h0
        have E : Hid (argsB ag st = true) := by show _ = _; rw [EE.out, HR.out.2]; rfl
        go_wp2
        go_ret
        exact ⟨by rw [E.out]; rfl, bel_dr HB0.out _⟩
      · have d0 : ((k : Int) == 0) = false := by simp; omega
        by_cases hs : st = 2
        · subst hs
          have E : Hid (argsB ag 2 = decide ((k : Int) ≤ 4)) := by
            show _ = _
            rw [EE.out, HR.out.2, decide_eq_false h0, show decide ((k : Int) ≤ 4) = decide (k ≤ 4) from decide_eq_decide.2 (by omega)]
            simp
          clear h0
          go_wp2
          go_ret
          exact ⟨by rw [E.out]; rfl, bel_dr HB0.out _⟩
        · have d1 : (st == 2) = false := by simpa using hs
          have E : Hid (argsB ag st = false) := by show _ = _; rw [EE.out, HR.out.2, decide_eq_false h0, decide_eq_false hs]; rfl
          clear h0 hs
          go_wp2
          go_ret
          exact ⟨by rw [E.out]; rfl, bel_dr HB0.out _⟩

set_option maxRecDepth 100000 in
set_option maxHeartbeats 4000000 in
theorem partOk_any (x0 x1 x3 x4 st be : Int) (x5 : Bool) (a2 a7 a8 : Option Addr) (n2 c2 n7 c7 n8 c8 : Nat) (ps : List Int) (w : World) (hT : Tabs w) (hr : Reads (.sl .u8) w [.slice a8 n8 c8] ps) (hn : n8 ≤ 2097152) :
    Calls Tryd.prog 28 #[.agg #[.int .i64 x0, .int .i64 x1, .slice a2 n2 c2, .int .i64 x3, .int .i64 x4, .bool x5, .int .i64 st, .slice a7 n7 c7, .slice a8 n8 c8, .int .i64 be]] w fun e w' => e = .returned (.bool (partB ps st)) ∧ Below w.heap.size w w' := by
  obtain ⟨hl, hrd, hc, hm⟩ := reads_bytes hr
  obtain ⟨W0, hW0⟩ : ∃ W0, W0 = w.alloc (.cells #[.int .i64 x0, .int .i64 x1, .slice a2 n2 c2, .int .i64 x3, .int .i64 x4, .bool x5, .int .i64 st, .slice a7 n7 c7, .slice a8 n8 c8, .int .i64 be] 32) := ⟨_, rfl⟩
  have bW0 : Below w.heap.size w W0 := by rw [hW0]; exact (Below.refl _ _).alloc (Nat.le_refl _) _
  have hbox : W0.heap[w.heap.size]? = some (.cells #[.int .i64 x0, .int .i64 x1, .slice a2 n2 c2, .int .i64 x3, .int .i64 x4, .bool x5, .int .i64 st, .slice a7 n7 c7, .slice a8 n8 c8, .int .i64 be] 32 (0, 0)) := by rw [hW0]; exact heap_alloc_new w _
  have zW0 : W0.heap.size = w.heap.size + 1 := by rw [hW0]; simp
  have HW0 : Hid (W0 = _) := hW0
  have HBX : Hid (∀ w', Below W0.heap.size W0 w' → w'.heap[w.heap.size]? = some (.cells #[.int .i64 x0, .int .i64 x1, .slice a2 n2 c2, .int .i64 x3, .int .i64 x4, .bool x5, .int .i64 st, .slice a7 n7 c7, .slice a8 n8 c8, .int .i64 be] 32 (0, 0))) := fun w' h => (h.block _ (by omega)).trans hbox
  clear hW0 hbox
  have q : Hid (Calls Tryd.prog 17 #[.slice a8 n8 c8] W0 fun e w'' => e = .returned (.bool (rbgB ps)) ∧ Below W0.heap.size W0 w'') := implRbg_any a8 n8 c8 ps W0 (hT.later bW0) hl (hrd.later bW0) hn hc hm
  have HB0 : Hid (Below w.heap.size w W0) := bW0
  unfold maxLen at hm
  have HL : Hid (ps.length = n8) := hl
  clear hr hl hrd hT
  by_cases h0 : n8 = 0
  · subst h0
    have E : Hid (partB ps st = true) := by show _ = _; unfold partB; rw [HL.out]; rfl
    go_enter Tryd.func28, Tryd.ntmps28
    go_wp2
    go_ret
    exact ⟨by rw [E.out]; rfl, (Below.refl _ _).alloc (Nat.le_refl _) _⟩
  · have d0 : ((n8 : Int) == 0) = false := by simp; omega
    by_cases hs : st = 0
    · subst hs
      have E : Hid (partB ps 0 = rbgB ps) := by show _ = _; unfold partB; rw [HL.out, decide_eq_false h0]; rfl
      obtain ⟨r, hr⟩ : ∃ r, r = rbgB ps := ⟨_, rfl⟩
      rw [← hr] at q E
      clear h0 hr
      go_enter Tryd.func28, Tryd.ntmps28
      go_wp2_with fail
      rw [← HW0.out]
      refine q.out.mono ?_
      rintro e w2 ⟨rfl, hb2⟩
      go_wp2
      go_ret
      exact ⟨by rw [E.out]; rfl, HB0.out.trans (hb2.mono HB0.out.size)⟩
    · have d1 : (st == 0) = false := by simpa using hs
      have E : Hid (partB ps st = false) := by show _ = _; unfold partB; rw [HL.out, decide_eq_false h0, decide_eq_false hs]; rfl
      clear h0 hs
      go_enter Tryd.func28, Tryd.ntmps28
      go_wp2
      go_ret
      exact ⟨by rw [E.out]; rfl, (Below.refl _ _).alloc (Nat.le_refl _) _⟩

set_option maxRecDepth 100000 in
set_option maxHeartbeats 4000000 in
theorem vtok_any (x0 x1 x3 x4 st be : Int) (x5 : Bool) (a2 a7 a8 : Option Addr) (n2 c2 n7 c7 n8 c8 : Nat) (zs ag ps : List Int) (w : World) (hT : Tabs w) (hg : Reads (.sl .int) w [.slice a2 n2 c2] zs) (ha : Reads (.sl .int) w [.slice a7 n7 c7] ag) (hp : Reads (.sl .u8) w [.slice a8 n8 c8] ps) (hn : n8 ≤ 2097152) :
    Calls Tryd.prog 9 #[.agg #[.int .i64 x0, .int .i64 x1, .slice a2 n2 c2, .int .i64 x3, .int .i64 x4, .bool x5, .int .i64 st, .slice a7 n7 c7, .slice a8 n8 c8, .int .i64 be]] w fun e w' => e = .returned (.bool (vtB ((x0, x1, zs, x3, x4, x5, ()), st, ag, ps, be, ()))) ∧ Below w.heap.size w w' := by
  obtain ⟨W0, hW0⟩ : ∃ W0, W0 = w.alloc (.cells #[.int .i64 x0, .int .i64 x1, .slice a2 n2 c2, .int .i64 x3, .int .i64 x4, .bool x5, .int .i64 st, .slice a7 n7 c7, .slice a8 n8 c8, .int .i64 be] 32) := ⟨_, rfl⟩
  have bW0 : Below w.heap.size w W0 := by rw [hW0]; exact (Below.refl _ _).alloc (Nat.le_refl _) _
  have hbox : W0.heap[w.heap.size]? = some (.cells #[.int .i64 x0, .int .i64 x1, .slice a2 n2 c2, .int .i64 x3, .int .i64 x4, .bool x5, .int .i64 st, .slice a7 n7 c7, .slice a8 n8 c8, .int .i64 be] 32 (0, 0)) := by rw [hW0]; exact heap_alloc_new w _
  have zW0 : W0.heap.size = w.heap.size + 1 := by rw [hW0]; simp
  have HW0 : Hid (W0 = _) := hW0
  have HBX : Hid (∀ w', Below W0.heap.size W0 w' → w'.heap[w.heap.size]? = some (.cells #[.int .i64 x0, .int .i64 x1, .slice a2 n2 c2, .int .i64 x3, .int .i64 x4, .bool x5, .int .i64 st, .slice a7 n7 c7, .slice a8 n8 c8, .int .i64 be] 32 (0, 0))) := fun w' h => (h.block _ (by omega)).trans hbox
  clear hW0 hbox
  have HB0 : Hid (Below w.heap.size w W0) := bW0
  have hz0 := bW0.size
  have qg : Hid (∀ b, gokB (x0, x1, zs, x3, x4, x5, ()) = b → Calls Tryd.prog 25 #[.agg #[.int .i64 x0, .int .i64 x1, .slice a2 n2 c2, .int .i64 x3, .int .i64 x4, .bool x5]] W0 fun e w'' => e = .returned (.bool b) ∧ Below W0.heap.size W0 w'') := fun b hb => by rw [← hb]; exact gok_any x0 x1 x3 x4 a2 n2 c2 x5 zs W0 (hg.later bW0)
  have qs : Hid (∀ w' b, statB st = b → Calls Tryd.prog 26 #[.int .i64 st] w' fun e w'' => e = .returned (.bool b) ∧ w'' = w') := fun w' b hb => by rw [← hb]; exact stateOk_any st w'
  have qa : Hid (∀ w' b, argsB ag st = b → Below w.heap.size w w' → Calls Tryd.prog 27 #[.agg #[.int .i64 x0, .int .i64 x1, .slice a2 n2 c2, .int .i64 x3, .int .i64 x4, .bool x5, .int .i64 st, .slice a7 n7 c7, .slice a8 n8 c8, .int .i64 be]] w' fun e w'' => e = .returned (.bool b) ∧ Below w'.heap.size w' w'') := fun w' b hb hw => by rw [← hb]; exact argsOk_any x0 x1 x3 x4 st be x5 a2 a7 a8 n2 c2 n7 c7 n8 c8 ag w' (ha.later hw)
  have qp : Hid (∀ w' b, partB ps st = b → Below w.heap.size w w' → Calls Tryd.prog 28 #[.agg #[.int .i64 x0, .int .i64 x1, .slice a2 n2 c2, .int .i64 x3, .int .i64 x4, .bool x5, .int .i64 st, .slice a7 n7 c7, .slice a8 n8 c8, .int .i64 be]] w' fun e w'' => e = .returned (.bool b) ∧ Below w'.heap.size w' w'') := fun w' b hb hw => by rw [← hb]; exact partOk_any x0 x1 x3 x4 st be x5 a2 a7 a8 n2 c2 n7 c7 n8 c8 ps w' (hT.later hw) (hp.later hw) hn
  clear hg ha hp hT bW0
  by_cases h0 : gokB (x0, x1, zs, x3, x4, x5, ()) = true
  rotate_left
  · have h0' : gokB (x0, x1, zs, x3, x4, x5, ()) = false := by simpa using h0
    have hG : Hid (gokB (x0, x1, zs, x3, x4, x5, ()) = false) := h0'
    have E : Hid (vtB ((x0, x1, zs, x3, x4, x5, ()), st, ag, ps, be, ()) = false) := vt_no (.inl h0')
    clear h0 h0'
    go_enter Tryd.func9, Tryd.ntmps9
    go_wp2_with fail
    rw [← HW0.out]
    refine (qg.out false hG.out).mono ?_
    rintro e w1 ⟨rfl, hb1⟩
    have s1 : Hid (Below W0.heap.size W0 w1) := hb1
    clear hb1
    go_wp2
    go_ret
    exact ⟨by rw [E.out]; rfl, HB0.out.trans (s1.out.mono HB0.out.size)⟩
  have hG : Hid (gokB (x0, x1, zs, x3, x4, x5, ()) = true) := h0
  clear h0
  by_cases h1 : statB st = true
  rotate_left
  · have h1' : statB st = false := by simpa using h1
    have hS : Hid (statB st = false) := h1'
    have E : Hid (vtB ((x0, x1, zs, x3, x4, x5, ()), st, ag, ps, be, ()) = false) := vt_no (.inr (.inl h1'))
    clear h1 h1'
    go_enter Tryd.func9, Tryd.ntmps9
    go_wp2_with fail
    rw [← HW0.out]
    refine (qg.out true hG.out).mono ?_
    rintro e w1 ⟨rfl, hb1⟩
    have s1 : Hid (Below W0.heap.size W0 w1) := hb1
    clear hb1
    have i1 := HBX.out w1 s1.out
    have y6 : w1.cell? ⟨w.heap.size, 6, none⟩ = some (.int .i64 st) := box_cell i1 rfl
    go_wp2_with fail
    refine (qs.out _ false hS.out).mono ?_
    rintro e w2 ⟨rfl, rfl⟩
    go_wp2
    go_ret
    exact ⟨by rw [E.out]; rfl, HB0.out.trans (s1.out.mono HB0.out.size)⟩
  have hS : Hid (statB st = true) := h1
  clear h1
  by_cases h2 : argsB ag st = true
  rotate_left
  · have h2' : argsB ag st = false := by simpa using h2
    have hA : Hid (argsB ag st = false) := h2'
    have E : Hid (vtB ((x0, x1, zs, x3, x4, x5, ()), st, ag, ps, be, ()) = false) := vt_no (.inr (.inr (.inl h2')))
    clear h2 h2'
    go_enter Tryd.func9, Tryd.ntmps9
    go_wp2_with fail
    rw [← HW0.out]
    refine (qg.out true hG.out).mono ?_
    rintro e w1 ⟨rfl, hb1⟩
    have s1 : Hid (Below W0.heap.size W0 w1) := hb1
    clear hb1
    have i1 := HBX.out w1 s1.out
    have y6 : w1.cell? ⟨w.heap.size, 6, none⟩ = some (.int .i64 st) := box_cell i1 rfl
    go_wp2_with fail
    refine (qs.out _ true hS.out).mono ?_
    rintro e w2 ⟨rfl, rfl⟩
    have i2 := HBX.out w2 s1.out
    clear y6
    have y0 : w2.cell? ⟨w.heap.size, 0, none⟩ = some (.int .i64 x0) := box_cell i2 rfl
    have y1 : w2.cell? ⟨w.heap.size, 1, none⟩ = some (.int .i64 x1) := box_cell i2 rfl
    have y2 : w2.cell? ⟨w.heap.size, 2, none⟩ = some (.slice a2 n2 c2) := box_cell i2 rfl
    have y3 : w2.cell? ⟨w.heap.size, 3, none⟩ = some (.int .i64 x3) := box_cell i2 rfl
    have y4 : w2.cell? ⟨w.heap.size, 4, none⟩ = some (.int .i64 x4) := box_cell i2 rfl
    have y5 : w2.cell? ⟨w.heap.size, 5, none⟩ = some (.bool x5) := box_cell i2 rfl
    have y6 : w2.cell? ⟨w.heap.size, 6, none⟩ = some (.int .i64 st) := box_cell i2 rfl
    have y7 : w2.cell? ⟨w.heap.size, 7, none⟩ = some (.slice a7 n7 c7) := box_cell i2 rfl
    have y8 : w2.cell? ⟨w.heap.size, 8, none⟩ = some (.slice a8 n8 c8) := box_cell i2 rfl
    have y9 : w2.cell? ⟨w.heap.size, 9, none⟩ = some (.int .i64 be) := box_cell i2 rfl
    go_wp2_with fail
    refine (qa.out _ false hA.out (HB0.out.trans (s1.out.mono HB0.out.size))).mono ?_
    rintro e w3 ⟨rfl, hb3⟩
    have s3 : Hid (Below W0.heap.size W0 w3) := s1.out.trans (hb3.mono s1.out.size)
    clear hb3
    go_wp2
    go_ret
    exact ⟨by rw [E.out]; rfl, HB0.out.trans (s3.out.mono HB0.out.size)⟩
  have hA : Hid (argsB ag st = true) := h2
  clear h2
  by_cases h3 : partB ps st = true
  rotate_left
  · have h3' : partB ps st = false := by simpa using h3
    have hP : Hid (partB ps st = false) := h3'
    have E : Hid (vtB ((x0, x1, zs, x3, x4, x5, ()), st, ag, ps, be, ()) = false) := vt_no (.inr (.inr (.inr (.inl h3'))))
    clear h3 h3'
    go_enter Tryd.func9, Tryd.ntmps9
    go_wp2_with fail
    rw [← HW0.out]
    refine (qg.out true hG.out).mono ?_
    rintro e w1 ⟨rfl, hb1⟩
    have s1 : Hid (Below W0.heap.size W0 w1) := hb1
    clear hb1
    have i1 := HBX.out w1 s1.out
    have y6 : w1.cell? ⟨w.heap.size, 6, none⟩ = some (.int .i64 st) := box_cell i1 rfl
    go_wp2_with fail
    refine (qs.out _ true hS.out).mono ?_
    rintro e w2 ⟨rfl, rfl⟩
    have i2 := HBX.out w2 s1.out
    clear y6
    have y0 : w2.cell? ⟨w.heap.size, 0, none⟩ = some (.int .i64 x0) := box_cell i2 rfl
    have y1 : w2.cell? ⟨w.heap.size, 1, none⟩ = some (.int .i64 x1) := box_cell i2 rfl
    have y2 : w2.cell? ⟨w.heap.size, 2, none⟩ = some (.slice a2 n2 c2) := box_cell i2 rfl
    have y3 : w2.cell? ⟨w.heap.size, 3, none⟩ = some (.int .i64 x3) := box_cell i2 rfl
    have y4 : w2.cell? ⟨w.heap.size, 4, none⟩ = some (.int .i64 x4) := box_cell i2 rfl
    have y5 : w2.cell? ⟨w.heap.size, 5, none⟩ = some (.bool x5) := box_cell i2 rfl
    have y6 : w2.cell? ⟨w.heap.size, 6, none⟩ = some (.int .i64 st) := box_cell i2 rfl
    have y7 : w2.cell? ⟨w.heap.size, 7, none⟩ = some (.slice a7 n7 c7) := box_cell i2 rfl
    have y8 : w2.cell? ⟨w.heap.size, 8, none⟩ = some (.slice a8 n8 c8) := box_cell i2 rfl
    have y9 : w2.cell? ⟨w.heap.size, 9, none⟩ = some (.int .i64 be) := box_cell i2 rfl
    go_wp2_with fail
    refine (qa.out _ true hA.out (HB0.out.trans (s1.out.mono HB0.out.size))).mono ?_
    rintro e w3 ⟨rfl, hb3⟩
    have s3 : Hid (Below W0.heap.size W0 w3) := s1.out.trans (hb3.mono s1.out.size)
    clear hb3
    have i3 := HBX.out w3 s3.out
    clear y0 y1 y2 y3 y4 y5 y6 y7 y8 y9
    have y0 : w3.cell? ⟨w.heap.size, 0, none⟩ = some (.int .i64 x0) := box_cell i3 rfl
    have y1 : w3.cell? ⟨w.heap.size, 1, none⟩ = some (.int .i64 x1) := box_cell i3 rfl
    have y2 : w3.cell? ⟨w.heap.size, 2, none⟩ = some (.slice a2 n2 c2) := box_cell i3 rfl
    have y3 : w3.cell? ⟨w.heap.size, 3, none⟩ = some (.int .i64 x3) := box_cell i3 rfl
    have y4 : w3.cell? ⟨w.heap.size, 4, none⟩ = some (.int .i64 x4) := box_cell i3 rfl
    have y5 : w3.cell? ⟨w.heap.size, 5, none⟩ = some (.bool x5) := box_cell i3 rfl
    have y6 : w3.cell? ⟨w.heap.size, 6, none⟩ = some (.int .i64 st) := box_cell i3 rfl
    have y7 : w3.cell? ⟨w.heap.size, 7, none⟩ = some (.slice a7 n7 c7) := box_cell i3 rfl
    have y8 : w3.cell? ⟨w.heap.size, 8, none⟩ = some (.slice a8 n8 c8) := box_cell i3 rfl
    have y9 : w3.cell? ⟨w.heap.size, 9, none⟩ = some (.int .i64 be) := box_cell i3 rfl
    go_wp2_with fail
    refine (qp.out _ false hP.out (HB0.out.trans (s3.out.mono HB0.out.size))).mono ?_
    rintro e w4 ⟨rfl, hb4⟩
    have s4 : Hid (Below W0.heap.size W0 w4) := s3.out.trans (hb4.mono s3.out.size)
    clear hb4
    go_wp2
    go_ret
    exact ⟨by rw [E.out]; rfl, HB0.out.trans (s4.out.mono HB0.out.size)⟩
  have hP : Hid (partB ps st = true) := h3
  clear h3
  by_cases hb1 : 0 ≤ be
  rotate_left
  · have E : Hid (vtB ((x0, x1, zs, x3, x4, x5, ()), st, ag, ps, be, ()) = false) := vt_no (.inr (.inr (.inr (.inr (by show bellB be = false; unfold bellB; rw [decide_eq_false hb1]; rfl)))))
    have d1 : decide (0 ≤ be) = false := decide_eq_false hb1
    go_enter Tryd.func9, Tryd.ntmps9
    go_wp2_with fail
    rw [← HW0.out]
    refine (qg.out true hG.out).mono ?_
    rintro e w1 ⟨rfl, hb1⟩
    have s1 : Hid (Below W0.heap.size W0 w1) := hb1
    clear hb1
    have i1 := HBX.out w1 s1.out
    have y6 : w1.cell? ⟨w.heap.size, 6, none⟩ = some (.int .i64 st) := box_cell i1 rfl
    go_wp2_with fail
    refine (qs.out _ true hS.out).mono ?_
    rintro e w2 ⟨rfl, rfl⟩
    have i2 := HBX.out w2 s1.out
    clear y6
    have y0 : w2.cell? ⟨w.heap.size, 0, none⟩ = some (.int .i64 x0) := box_cell i2 rfl
    have y1 : w2.cell? ⟨w.heap.size, 1, none⟩ = some (.int .i64 x1) := box_cell i2 rfl
    have y2 : w2.cell? ⟨w.heap.size, 2, none⟩ = some (.slice a2 n2 c2) := box_cell i2 rfl
    have y3 : w2.cell? ⟨w.heap.size, 3, none⟩ = some (.int .i64 x3) := box_cell i2 rfl
    have y4 : w2.cell? ⟨w.heap.size, 4, none⟩ = some (.int .i64 x4) := box_cell i2 rfl
    have y5 : w2.cell? ⟨w.heap.size, 5, none⟩ = some (.bool x5) := box_cell i2 rfl
    have y6 : w2.cell? ⟨w.heap.size, 6, none⟩ = some (.int .i64 st) := box_cell i2 rfl
    have y7 : w2.cell? ⟨w.heap.size, 7, none⟩ = some (.slice a7 n7 c7) := box_cell i2 rfl
    have y8 : w2.cell? ⟨w.heap.size, 8, none⟩ = some (.slice a8 n8 c8) := box_cell i2 rfl
    have y9 : w2.cell? ⟨w.heap.size, 9, none⟩ = some (.int .i64 be) := box_cell i2 rfl
    go_wp2_with fail
    refine (qa.out _ true hA.out (HB0.out.trans (s1.out.mono HB0.out.size))).mono ?_
    rintro e w3 ⟨rfl, hb3⟩
    have s3 : Hid (Below W0.heap.size W0 w3) := s1.out.trans (hb3.mono s1.out.size)
    clear hb3
    have i3 := HBX.out w3 s3.out
    clear y0 y1 y2 y3 y4 y5 y6 y7 y8 y9
    have y0 : w3.cell? ⟨w.heap.size, 0, none⟩ = some (.int .i64 x0) := box_cell i3 rfl
    have y1 : w3.cell? ⟨w.heap.size, 1, none⟩ = some (.int .i64 x1) := box_cell i3 rfl
    have y2 : w3.cell? ⟨w.heap.size, 2, none⟩ = some (.slice a2 n2 c2) := box_cell i3 rfl
    have y3 : w3.cell? ⟨w.heap.size, 3, none⟩ = some (.int .i64 x3) := box_cell i3 rfl
    have y4 : w3.cell? ⟨w.heap.size, 4, none⟩ = some (.int .i64 x4) := box_cell i3 rfl
    have y5 : w3.cell? ⟨w.heap.size, 5, none⟩ = some (.bool x5) := box_cell i3 rfl
    have y6 : w3.cell? ⟨w.heap.size, 6, none⟩ = some (.int .i64 st) := box_cell i3 rfl
    have y7 : w3.cell? ⟨w.heap.size, 7, none⟩ = some (.slice a7 n7 c7) := box_cell i3 rfl
    have y8 : w3.cell? ⟨w.heap.size, 8, none⟩ = some (.slice a8 n8 c8) := box_cell i3 rfl
    have y9 : w3.cell? ⟨w.heap.size, 9, none⟩ = some (.int .i64 be) := box_cell i3 rfl
    go_wp2_with fail
    refine (qp.out _ true hP.out (HB0.out.trans (s3.out.mono HB0.out.size))).mono ?_
    rintro e w4 ⟨rfl, hb4⟩
    have s4 : Hid (Below W0.heap.size W0 w4) := s3.out.trans (hb4.mono s3.out.size)
    clear hb4
    have i4 := HBX.out w4 s4.out
    clear y0 y1 y2 y3 y4 y5 y6 y7 y8 y9
    have y9 : w4.cell? ⟨w.heap.size, 9, none⟩ = some (.int .i64 be) := box_cell i4 rfl
    go_wp2
    go_ret
    exact ⟨by rw [E.out]; rfl, HB0.out.trans (s4.out.mono HB0.out.size)⟩
  by_cases hb2 : be ≤ 1000000
  rotate_left
  · have E : Hid (vtB ((x0, x1, zs, x3, x4, x5, ()), st, ag, ps, be, ()) = false) := vt_no (.inr (.inr (.inr (.inr (by show bellB be = false; unfold bellB; rw [decide_eq_false hb2, Bool.and_false])))))
    have d2 : decide (be ≤ 1000000) = false := decide_eq_false hb2
    have d1 : decide (0 ≤ be) = true := decide_eq_true hb1
    go_enter Tryd.func9, Tryd.ntmps9
    go_wp2_with fail
    rw [← HW0.out]
    refine (qg.out true hG.out).mono ?_
    rintro e w1 ⟨rfl, hb1⟩
    have s1 : Hid (Below W0.heap.size W0 w1) := hb1
    clear hb1
    have i1 := HBX.out w1 s1.out
    have y6 : w1.cell? ⟨w.heap.size, 6, none⟩ = some (.int .i64 st) := box_cell i1 rfl
    go_wp2_with fail
    refine (qs.out _ true hS.out).mono ?_
    rintro e w2 ⟨rfl, rfl⟩
    have i2 := HBX.out w2 s1.out
    clear y6
    have y0 : w2.cell? ⟨w.heap.size, 0, none⟩ = some (.int .i64 x0) := box_cell i2 rfl
    have y1 : w2.cell? ⟨w.heap.size, 1, none⟩ = some (.int .i64 x1) := box_cell i2 rfl
    have y2 : w2.cell? ⟨w.heap.size, 2, none⟩ = some (.slice a2 n2 c2) := box_cell i2 rfl
    have y3 : w2.cell? ⟨w.heap.size, 3, none⟩ = some (.int .i64 x3) := box_cell i2 rfl
    have y4 : w2.cell? ⟨w.heap.size, 4, none⟩ = some (.int .i64 x4) := box_cell i2 rfl
    have y5 : w2.cell? ⟨w.heap.size, 5, none⟩ = some (.bool x5) := box_cell i2 rfl
    have y6 : w2.cell? ⟨w.heap.size, 6, none⟩ = some (.int .i64 st) := box_cell i2 rfl
    have y7 : w2.cell? ⟨w.heap.size, 7, none⟩ = some (.slice a7 n7 c7) := box_cell i2 rfl
    have y8 : w2.cell? ⟨w.heap.size, 8, none⟩ = some (.slice a8 n8 c8) := box_cell i2 rfl
    have y9 : w2.cell? ⟨w.heap.size, 9, none⟩ = some (.int .i64 be) := box_cell i2 rfl
    go_wp2_with fail
    refine (qa.out _ true hA.out (HB0.out.trans (s1.out.mono HB0.out.size))).mono ?_
    rintro e w3 ⟨rfl, hb3⟩
    have s3 : Hid (Below W0.heap.size W0 w3) := s1.out.trans (hb3.mono s1.out.size)
    clear hb3
    have i3 := HBX.out w3 s3.out
    clear y0 y1 y2 y3 y4 y5 y6 y7 y8 y9
    have y0 : w3.cell? ⟨w.heap.size, 0, none⟩ = some (.int .i64 x0) := box_cell i3 rfl
    have y1 : w3.cell? ⟨w.heap.size, 1, none⟩ = some (.int .i64 x1) := box_cell i3 rfl
    have y2 : w3.cell? ⟨w.heap.size, 2, none⟩ = some (.slice a2 n2 c2) := box_cell i3 rfl
    have y3 : w3.cell? ⟨w.heap.size, 3, none⟩ = some (.int .i64 x3) := box_cell i3 rfl
    have y4 : w3.cell? ⟨w.heap.size, 4, none⟩ = some (.int .i64 x4) := box_cell i3 rfl
    have y5 : w3.cell? ⟨w.heap.size, 5, none⟩ = some (.bool x5) := box_cell i3 rfl
    have y6 : w3.cell? ⟨w.heap.size, 6, none⟩ = some (.int .i64 st) := box_cell i3 rfl
    have y7 : w3.cell? ⟨w.heap.size, 7, none⟩ = some (.slice a7 n7 c7) := box_cell i3 rfl
    have y8 : w3.cell? ⟨w.heap.size, 8, none⟩ = some (.slice a8 n8 c8) := box_cell i3 rfl
    have y9 : w3.cell? ⟨w.heap.size, 9, none⟩ = some (.int .i64 be) := box_cell i3 rfl
    go_wp2_with fail
    refine (qp.out _ true hP.out (HB0.out.trans (s3.out.mono HB0.out.size))).mono ?_
    rintro e w4 ⟨rfl, hb4⟩
    have s4 : Hid (Below W0.heap.size W0 w4) := s3.out.trans (hb4.mono s3.out.size)
    clear hb4
    have i4 := HBX.out w4 s4.out
    clear y0 y1 y2 y3 y4 y5 y6 y7 y8 y9
    have y9 : w4.cell? ⟨w.heap.size, 9, none⟩ = some (.int .i64 be) := box_cell i4 rfl
    go_wp2
    go_ret
    exact ⟨by rw [E.out]; rfl, HB0.out.trans (s4.out.mono HB0.out.size)⟩
  · have E : Hid (vtB ((x0, x1, zs, x3, x4, x5, ()), st, ag, ps, be, ()) = true) := vt_yes hG.out hS.out hA.out hP.out (by show bellB be = true; unfold bellB; rw [decide_eq_true hb1, decide_eq_true hb2]; rfl)
    have d2 : decide (be ≤ 1000000) = true := decide_eq_true hb2
    have d1 : decide (0 ≤ be) = true := decide_eq_true hb1
    go_enter Tryd.func9, Tryd.ntmps9
    go_wp2_with fail
    rw [← HW0.out]
    refine (qg.out true hG.out).mono ?_
    rintro e w1 ⟨rfl, hb1⟩
    have s1 : Hid (Below W0.heap.size W0 w1) := hb1
    clear hb1
    have i1 := HBX.out w1 s1.out
    have y6 : w1.cell? ⟨w.heap.size, 6, none⟩ = some (.int .i64 st) := box_cell i1 rfl
    go_wp2_with fail
    refine (qs.out _ true hS.out).mono ?_
    rintro e w2 ⟨rfl, rfl⟩
    have i2 := HBX.out w2 s1.out
    clear y6
    have y0 : w2.cell? ⟨w.heap.size, 0, none⟩ = some (.int .i64 x0) := box_cell i2 rfl
    have y1 : w2.cell? ⟨w.heap.size, 1, none⟩ = some (.int .i64 x1) := box_cell i2 rfl
    have y2 : w2.cell? ⟨w.heap.size, 2, none⟩ = some (.slice a2 n2 c2) := box_cell i2 rfl
    have y3 : w2.cell? ⟨w.heap.size, 3, none⟩ = some (.int .i64 x3) := box_cell i2 rfl
    have y4 : w2.cell? ⟨w.heap.size, 4, none⟩ = some (.int .i64 x4) := box_cell i2 rfl
    have y5 : w2.cell? ⟨w.heap.size, 5, none⟩ = some (.bool x5) := box_cell i2 rfl
    have y6 : w2.cell? ⟨w.heap.size, 6, none⟩ = some (.int .i64 st) := box_cell i2 rfl
    have y7 : w2.cell? ⟨w.heap.size, 7, none⟩ = some (.slice a7 n7 c7) := box_cell i2 rfl
    have y8 : w2.cell? ⟨w.heap.size, 8, none⟩ = some (.slice a8 n8 c8) := box_cell i2 rfl
    have y9 : w2.cell? ⟨w.heap.size, 9, none⟩ = some (.int .i64 be) := box_cell i2 rfl
    go_wp2_with fail
    refine (qa.out _ true hA.out (HB0.out.trans (s1.out.mono HB0.out.size))).mono ?_
    rintro e w3 ⟨rfl, hb3⟩
    have s3 : Hid (Below W0.heap.size W0 w3) := s1.out.trans (hb3.mono s1.out.size)
    clear hb3
    have i3 := HBX.out w3 s3.out
    clear y0 y1 y2 y3 y4 y5 y6 y7 y8 y9
    have y0 : w3.cell? ⟨w.heap.size, 0, none⟩ = some (.int .i64 x0) := box_cell i3 rfl
    have y1 : w3.cell? ⟨w.heap.size, 1, none⟩ = some (.int .i64 x1) := box_cell i3 rfl
    have y2 : w3.cell? ⟨w.heap.size, 2, none⟩ = some (.slice a2 n2 c2) := box_cell i3 rfl
    have y3 : w3.cell? ⟨w.heap.size, 3, none⟩ = some (.int .i64 x3) := box_cell i3 rfl
    have y4 : w3.cell? ⟨w.heap.size, 4, none⟩ = some (.int .i64 x4) := box_cell i3 rfl
    have y5 : w3.cell? ⟨w.heap.size, 5, none⟩ = some (.bool x5) := box_cell i3 rfl
    have y6 : w3.cell? ⟨w.heap.size, 6, none⟩ = some (.int .i64 st) := box_cell i3 rfl
    have y7 : w3.cell? ⟨w.heap.size, 7, none⟩ = some (.slice a7 n7 c7) := box_cell i3 rfl
    have y8 : w3.cell? ⟨w.heap.size, 8, none⟩ = some (.slice a8 n8 c8) := box_cell i3 rfl
    have y9 : w3.cell? ⟨w.heap.size, 9, none⟩ = some (.int .i64 be) := box_cell i3 rfl
    go_wp2_with fail
    refine (qp.out _ true hP.out (HB0.out.trans (s3.out.mono HB0.out.size))).mono ?_
    rintro e w4 ⟨rfl, hb4⟩
    have s4 : Hid (Below W0.heap.size W0 w4) := s3.out.trans (hb4.mono s3.out.size)
    clear hb4
    have i4 := HBX.out w4 s4.out
    clear y0 y1 y2 y3 y4 y5 y6 y7 y8 y9
    have y9 : w4.cell? ⟨w.heap.size, 9, none⟩ = some (.int .i64 be) := box_cell i4 rfl
    go_wp2
    go_ret
    exact ⟨by rw [E.out]; rfl, HB0.out.trans (s4.out.mono HB0.out.size)⟩

end Go.Proofs.YtojalheohpkdoaaDoor
