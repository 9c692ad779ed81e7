/-
  VtOk of the model. By program (vtokgen.py).
-/
import Derived.Test.YtojalheohpkdoaaDoorVtP
import Derived.Test.YtojalheohpkdoaaDoorGrT
import Derived.Test.YtojalheohpkdoaaDoorRbgS
namespace Go.Proofs.YtojalheohpkdoaaDoor
open Go.RowKit
set_option linter.unusedVariables false
set_option linter.unusedSimpArgs false


theorem bel_drS {B : Nat} {x w : World} (h : Below B x w) (q : Nat) : Below B x (w.drewN q) := ⟨h.os, h.tape, h.output, h.size, h.block⟩

set_option maxRecDepth 100000 in
set_option maxHeartbeats 4000000 in
theorem specVtok_any (x0 x1 x3 x4 st be : Int) (x5 : Bool) (a2 a7 a8 : Option Addr) (n2 c2 n7 c7 n8 c8 : Nat) (zs ag ps : List Int) (w : World) (hg : Reads (.sl .int) w [.slice a2 n2 c2] zs) (ha : Reads (.sl .int) w [.slice a7 n7 c7] ag) (hp : Reads (.sl .u8) w [.slice a8 n8 c8] ps) (hn : n8 ≤ 2097152) :
    Calls Tryd.prog 7 #[.agg #[.int .i64 x0, .int .i64 x1, .slice a2 n2 c2, .int .i64 x3, .int .i64 x4, .bool x5, .int .i64 st, .slice a7 n7 c7, .slice a8 n8 c8, .int .i64 be]] w fun e w' => e = .returned (.bool (vtB ((x0, x1, zs, x3, x4, x5, ()), st, ag, ps, be, ()))) ∧ Below w.heap.size w w' := by
  obtain ⟨W0, hW0⟩ : ∃ W0, W0 = w.alloc (.cells #[.int .i64 x0, .int .i64 x1, .slice a2 n2 c2, .int .i64 x3, .int .i64 x4, .bool x5, .int .i64 st, .slice a7 n7 c7, .slice a8 n8 c8, .int .i64 be] 32) := ⟨_, rfl⟩
  have bW0 : Below w.heap.size w W0 := by rw [hW0]; exact (Below.refl _ _).alloc (Nat.le_refl _) _
  have hbox : W0.heap[w.heap.size]? = some (.cells #[.int .i64 x0, .int .i64 x1, .slice a2 n2 c2, .int .i64 x3, .int .i64 x4, .bool x5, .int .i64 st, .slice a7 n7 c7, .slice a8 n8 c8, .int .i64 be] 32 (0, 0)) := by rw [hW0]; exact heap_alloc_new w _
  have zW0 : W0.heap.size = w.heap.size + 1 := by rw [hW0]; simp
  have HW0 : Hid (W0 = _) := hW0
  have HBX : Hid (∀ w', Below W0.heap.size W0 w' → w'.heap[w.heap.size]? = some (.cells #[.int .i64 x0, .int .i64 x1, .slice a2 n2 c2, .int .i64 x3, .int .i64 x4, .bool x5, .int .i64 st, .slice a7 n7 c7, .slice a8 n8 c8, .int .i64 be] 32 (0, 0))) := fun w' h => (h.block _ (by omega)).trans hbox
  clear hW0 hbox
  have HB0 : Hid (Below w.heap.size w W0) := bW0
  have qg : Hid (∀ b, gokB (x0, x1, zs, x3, x4, x5, ()) = b → Calls Tryd.prog 22 #[.agg #[.int .i64 x0, .int .i64 x1, .slice a2 n2 c2, .int .i64 x3, .int .i64 x4, .bool x5]] W0 fun e w'' => e = .returned (.bool b) ∧ Below W0.heap.size W0 w'') := fun b hb => by rw [← hb]; exact specGok_any x0 x1 x3 x4 a2 n2 c2 x5 zs W0 (hg.later bW0)
  obtain ⟨hl7, hr7, hc7, hm7⟩ := reads_ints ha
  obtain ⟨hl8, hr8, hc8, hm8⟩ := reads_bytes hp
  have qr : Hid (∀ w' b, rbgB ps = b → Below w.heap.size w w' → Calls Tryd.prog 15 #[.slice a8 n8 c8] w' fun e w'' => e = .returned (.bool b) ∧ Below w'.heap.size w' w'') := fun w' b hb hw => by rw [← hb]; exact specRbg_any a8 n8 c8 ps w' hl8 (hr8.later hw) hn hc8 hm8
  unfold maxLen at hm7 hm8
  have HR : Hid (RdI w a7 ag ∧ ag.length = n7 ∧ ps.length = n8) := ⟨hr7, hl7, hl8⟩
  clear hg ha hp bW0 hl7 hr7 hl8 hr8
  by_cases h0 : gokB (x0, x1, zs, x3, x4, x5, ()) = true
  rotate_left
  · have h0' : gokB (x0, x1, zs, x3, x4, x5, ()) = false := by simpa using h0
    have hG : Hid (gokB (x0, x1, zs, x3, x4, x5, ()) = false) := h0'
    have E : Hid (vtB ((x0, x1, zs, x3, x4, x5, ()), st, ag, ps, be, ()) = false) := vt_no (.inl h0')
    clear h0 h0'
    go_enter Tryd.func7, Tryd.ntmps7
    go_wp2_with fail
    rw [← HW0.out]
    refine (qg.out false hG.out).mono ?_
    rintro e w1 ⟨rfl, hb1⟩
    have s1 : Hid (Below w.heap.size w w1) := HB0.out.trans (hb1.mono HB0.out.size)
    have i1 := HBX.out w1 hb1
    clear hb1
    go_wp2
    go_ret
    exact ⟨by rw [E.out]; rfl, s1.out⟩
  have hG : Hid (gokB (x0, x1, zs, x3, x4, x5, ()) = true) := h0
  clear h0
  by_cases k0 : st < 0
  · have E : Hid (vtB ((x0, x1, zs, x3, x4, x5, ()), st, ag, ps, be, ()) = false) := by
      have h := k0
      exact vt_no (.inr (.inl (stat_no (.inl h))))
    have d0 : decide (st < 0) = true := decide_eq_true k0
    go_enter Tryd.func7, Tryd.ntmps7
    go_wp2_with fail
    rw [← HW0.out]
    refine (qg.out true hG.out).mono ?_
    rintro e w1 ⟨rfl, hb1⟩
    have s1 : Hid (Below w.heap.size w w1) := HB0.out.trans (hb1.mono HB0.out.size)
    have i1 := HBX.out w1 hb1
    clear hb1
    have y6 : w1.cell? ⟨w.heap.size, 6, none⟩ = some (.int .i64 st) := box_cell i1 rfl
    have y7 : w1.cell? ⟨w.heap.size, 7, none⟩ = some (.slice a7 n7 c7) := box_cell i1 rfl
    have y9 : w1.cell? ⟨w.heap.size, 9, none⟩ = some (.int .i64 be) := box_cell i1 rfl
    go_wp2
    go_ret
    exact ⟨by rw [E.out]; rfl, s1.out⟩
  have d0 : decide (st < 0) = false := decide_eq_false k0
  by_cases k1 : 2 < st
  · have E : Hid (vtB ((x0, x1, zs, x3, x4, x5, ()), st, ag, ps, be, ()) = false) := by
      have h := k1
      exact vt_no (.inr (.inl (stat_no (.inr h))))
    have d1 : decide ((2 : Int) < st) = true := decide_eq_true k1
    go_enter Tryd.func7, Tryd.ntmps7
    go_wp2_with fail
    rw [← HW0.out]
    refine (qg.out true hG.out).mono ?_
    rintro e w1 ⟨rfl, hb1⟩
    have s1 : Hid (Below w.heap.size w w1) := HB0.out.trans (hb1.mono HB0.out.size)
    have i1 := HBX.out w1 hb1
    clear hb1
    have y6 : w1.cell? ⟨w.heap.size, 6, none⟩ = some (.int .i64 st) := box_cell i1 rfl
    have y7 : w1.cell? ⟨w.heap.size, 7, none⟩ = some (.slice a7 n7 c7) := box_cell i1 rfl
    have y9 : w1.cell? ⟨w.heap.size, 9, none⟩ = some (.int .i64 be) := box_cell i1 rfl
    go_wp2
    go_ret
    exact ⟨by rw [E.out]; rfl, s1.out⟩
  have d1 : decide ((2 : Int) < st) = false := decide_eq_false k1
  by_cases k2 : (4 : Int) < (n7 : Int)
  · have E : Hid (vtB ((x0, x1, zs, x3, x4, x5, ()), st, ag, ps, be, ()) = false) := by
      have h := k2
      exact vt_no (.inr (.inr (.inl (args_long (by rw [HR.out.2.1]; omega)))))
    have d2 : decide ((4 : Int) < (n7 : Int)) = true := decide_eq_true k2
    go_enter Tryd.func7, Tryd.ntmps7
    go_wp2_with fail
    rw [← HW0.out]
    refine (qg.out true hG.out).mono ?_
    rintro e w1 ⟨rfl, hb1⟩
    have s1 : Hid (Below w.heap.size w w1) := HB0.out.trans (hb1.mono HB0.out.size)
    have i1 := HBX.out w1 hb1
    clear hb1
    have y6 : w1.cell? ⟨w.heap.size, 6, none⟩ = some (.int .i64 st) := box_cell i1 rfl
    have y7 : w1.cell? ⟨w.heap.size, 7, none⟩ = some (.slice a7 n7 c7) := box_cell i1 rfl
    have y9 : w1.cell? ⟨w.heap.size, 9, none⟩ = some (.int .i64 be) := box_cell i1 rfl
    go_wp2
    go_ret
    exact ⟨by rw [E.out]; rfl, s1.out⟩
  have d2 : decide ((4 : Int) < (n7 : Int)) = false := decide_eq_false k2
  by_cases k3 : be < 0
  · have E : Hid (vtB ((x0, x1, zs, x3, x4, x5, ()), st, ag, ps, be, ()) = false) := by
      have h := k3
      exact vt_no (.inr (.inr (.inr (.inr (by show bellB be = false; unfold bellB; rw [decide_eq_false (by omega)]; rfl)))))
    have d3 : decide (be < 0) = true := decide_eq_true k3
    go_enter Tryd.func7, Tryd.ntmps7
    go_wp2_with fail
    rw [← HW0.out]
    refine (qg.out true hG.out).mono ?_
    rintro e w1 ⟨rfl, hb1⟩
    have s1 : Hid (Below w.heap.size w w1) := HB0.out.trans (hb1.mono HB0.out.size)
    have i1 := HBX.out w1 hb1
    clear hb1
    have y6 : w1.cell? ⟨w.heap.size, 6, none⟩ = some (.int .i64 st) := box_cell i1 rfl
    have y7 : w1.cell? ⟨w.heap.size, 7, none⟩ = some (.slice a7 n7 c7) := box_cell i1 rfl
    have y9 : w1.cell? ⟨w.heap.size, 9, none⟩ = some (.int .i64 be) := box_cell i1 rfl
    go_wp2
    go_ret
    exact ⟨by rw [E.out]; rfl, s1.out⟩
  have d3 : decide (be < 0) = false := decide_eq_false k3
  by_cases k4 : 1000000 < be
  · have E : Hid (vtB ((x0, x1, zs, x3, x4, x5, ()), st, ag, ps, be, ()) = false) := by
      have h := k4
      exact vt_no (.inr (.inr (.inr (.inr (by show bellB be = false; unfold bellB; rw [decide_eq_false (p := be ≤ 1000000) (by omega), Bool.and_false])))))
    have d4 : decide ((1000000 : Int) < be) = true := decide_eq_true k4
    go_enter Tryd.func7, Tryd.ntmps7
    go_wp2_with fail
    rw [← HW0.out]
    refine (qg.out true hG.out).mono ?_
    rintro e w1 ⟨rfl, hb1⟩
    have s1 : Hid (Below w.heap.size w w1) := HB0.out.trans (hb1.mono HB0.out.size)
    have i1 := HBX.out w1 hb1
    clear hb1
    have y6 : w1.cell? ⟨w.heap.size, 6, none⟩ = some (.int .i64 st) := box_cell i1 rfl
    have y7 : w1.cell? ⟨w.heap.size, 7, none⟩ = some (.slice a7 n7 c7) := box_cell i1 rfl
    have y9 : w1.cell? ⟨w.heap.size, 9, none⟩ = some (.int .i64 be) := box_cell i1 rfl
    go_wp2
    go_ret
    exact ⟨by rw [E.out]; rfl, s1.out⟩
  have d4 : decide ((1000000 : Int) < be) = false := decide_eq_false k4
  have HK : Hid (statB st = true ∧ bellB be = true ∧ n7 ≤ 4) := ⟨stat_yes (by omega), by unfold bellB; rw [decide_eq_true (by omega), decide_eq_true (by omega)]; rfl, by omega⟩
  clear k0 k1 k2 k3 k4
  go_enter Tryd.func7, Tryd.ntmps7
  go_wp2_with fail
  rw [← HW0.out]
  refine (qg.out true hG.out).mono ?_
  rintro e w1 ⟨rfl, hb1⟩
  have s1 : Hid (Below w.heap.size w w1) := HB0.out.trans (hb1.mono HB0.out.size)
  have i1 := HBX.out w1 hb1
  clear hb1
  have y6 : w1.cell? ⟨w.heap.size, 6, none⟩ = some (.int .i64 st) := box_cell i1 rfl
  have y7 : w1.cell? ⟨w.heap.size, 7, none⟩ = some (.slice a7 n7 c7) := box_cell i1 rfl
  have y9 : w1.cell? ⟨w.heap.size, 9, none⟩ = some (.int .i64 be) := box_cell i1 rfl
  go_wp2
  go_loopw [38] (fun i wr => ∃ k : Nat, k ≤ n7 ∧ i = .int .i64 k ∧ (∀ j, j < k → argB (ag[j]?.getD 0) = true) ∧ ∃ q, wr = w1.drewN q) (fun i _ => n7 - (intOf i).toNat)
  case atStart => exact ⟨0, Nat.zero_le _, rfl, fun j hj => by omega, 0, rfl⟩
  case round =>
    obtain ⟨k, hk, rfl, hall, q, rfl⟩ := hrel
    have HA : Hid (∀ j, j < k → argB (ag[j]?.getD 0) = true) := hall
    clear hall
    by_cases hlt : k < n7
    · have hne : ag ≠ [] := by intro h; have := HR.out.2.1; subst h; simp at this; omega
      obtain ⟨b, off, rfl, hb, hcell⟩ := HR.out.1.resolve_left hne
      obtain ⟨v, hv⟩ : ∃ v, v = ag[k]?.getD 0 := ⟨_, rfl⟩
      have g1 : (w1.drewN q).cell? ⟨b, off + k, none⟩ = some (.int .i64 v) := by rw [hv]; exact (s1.out.cell (p := ⟨b, off + k, none⟩) hb).trans (hcell k (by have := HR.out.2.1; omega))
      have hlt' : (k : Int) < (n7 : Int) := by omega
      have HV : Hid (v = ag[k]?.getD 0) := hv
      clear hcell hne hv
      by_cases v1 : v < 0
      · have E : Hid (vtB ((x0, x1, zs, x3, x4, x5, ()), st, ag, ps, be, ()) = false) := vt_no (.inr (.inr (.inl (argsB_some (i := k) (by rw [HR.out.2.1]; exact hlt) (by rw [← HV.out]; unfold argB; rw [decide_eq_false (by omega)]; rfl)))))
        go_wp2
        go_ret
        exact ⟨by rw [E.out]; rfl, bel_drS s1.out _⟩
      · by_cases v2 : 9999 < v
        · have E : Hid (vtB ((x0, x1, zs, x3, x4, x5, ()), st, ag, ps, be, ()) = false) := vt_no (.inr (.inr (.inl (argsB_some (i := k) (by rw [HR.out.2.1]; exact hlt) (by rw [← HV.out]; unfold argB; rw [decide_eq_false (p := v ≤ 9999) (by omega), Bool.and_false])))))
          go_wp2
          go_ret
          exact ⟨by rw [E.out]; rfl, bel_drS s1.out _⟩
        · have HA2 : Hid (∀ j, j < k + 1 → argB (ag[j]?.getD 0) = true) := fun j hj => by
            by_cases e : j = k
            · subst e; rw [← HV.out]; unfold argB; rw [decide_eq_true (by omega), decide_eq_true (by omega)]; rfl
            · exact HA.out j (by omega)
          go_wp2
          go_roundw
          case rel => exact ⟨k + 1, by omega, by go_num, HA2.out, _, rfl⟩
          case measure => simp [intOf]; omega
    · have e : k = n7 := by omega
      subst e
      have EE : argsB ag st = (decide (ag.length = 0) || (decide (st = 2) && decide (ag.length ≤ 4))) := argsB_all (fun i hi => HA.out i (by rw [← HR.out.2.1]; exact hi))
      rw [HR.out.2.1, decide_eq_true HK.out.2.2] at EE
      have S2 : Hid (Below w.heap.size w (w1.drewN q)) := bel_drS s1.out q
      have HI : Hid (w1.heap[w.heap.size]? = some (.cells #[.int .i64 x0, .int .i64 x1, .slice a2 n2 c2, .int .i64 x3, .int .i64 x4, .bool x5, .int .i64 st, .slice a7 k c7, .slice a8 n8 c8, .int .i64 be] 32 (0, 0))) := i1
      clear y6 y7 y9 i1 d0 d1 d2 d3 d4
      have i2 : (w1.drewN q).heap[w.heap.size]? = some (.cells #[.int .i64 x0, .int .i64 x1, .slice a2 n2 c2, .int .i64 x3, .int .i64 x4, .bool x5, .int .i64 st, .slice a7 k c7, .slice a8 n8 c8, .int .i64 be] 32 (0, 0)) := HI.out
      obtain ⟨w2, hw2⟩ : ∃ w2, w2 = w1.drewN q := ⟨_, rfl⟩
      rw [← hw2] at i2 S2 ⊢
      clear hw2 HI
      have y6 : w2.cell? ⟨w.heap.size, 6, none⟩ = some (.int .i64 st) := box_cell i2 rfl
      have y7 : w2.cell? ⟨w.heap.size, 7, none⟩ = some (.slice a7 k c7) := box_cell i2 rfl
      have y8 : w2.cell? ⟨w.heap.size, 8, none⟩ = some (.slice a8 n8 c8) := box_cell i2 rfl
      by_cases hn7 : k = 0
      · subst hn7
        have hA : argsB ag st = true := by rw [EE]; rfl
        by_cases h8 : n8 = 0
        · subst h8
          have E : Hid (vtB ((x0, x1, zs, x3, x4, x5, ()), st, ag, ps, be, ()) = true) := vt_yes hG.out HK.out.1 hA (by unfold partB; show (decide (ps.length = 0) || _) = true; rw [HR.out.2.2]; rfl) HK.out.2.1
          clear hA EE
          go_wp2
          go_ret
          exact ⟨by rw [E.out]; rfl, S2.out⟩
        · have f8 : ((n8 : Int) == 0) = false := by simp; omega
          by_cases hs : st = 0
          · subst hs
            have E : Hid (vtB ((x0, x1, zs, x3, x4, x5, ()), (0 : Int), ag, ps, be, ()) = rbgB ps) := by
              show _ = _
              unfold vtB
              show (gokB (x0, x1, zs, x3, x4, x5, ()) && (statB 0 && (argsB ag 0 && (partB ps 0 && bellB be)))) = _
              rw [hG.out, HK.out.1, hA, HK.out.2.1]
              unfold partB
              rw [HR.out.2.2, decide_eq_false h8]
              cases rbgB ps <;> rfl
            obtain ⟨r, hr⟩ : ∃ r, r = rbgB ps := ⟨_, rfl⟩
            have HRB : Hid (rbgB ps = r) := hr.symm
            rw [← hr] at E
            clear hr hA EE h8
            go_wp2_with fail
            refine (qr.out _ r HRB.out S2.out).mono ?_
            rintro e w3 ⟨rfl, hb3⟩
            go_wp2
            go_ret
            exact ⟨by rw [E.out]; rfl, S2.out.trans (hb3.mono S2.out.size)⟩
          · have f0 : (st == 0) = false := by simpa using hs
            have E : Hid (vtB ((x0, x1, zs, x3, x4, x5, ()), st, ag, ps, be, ()) = false) := vt_no (.inr (.inr (.inr (.inl (by show partB ps st = false; unfold partB; rw [HR.out.2.2, decide_eq_false h8, decide_eq_false hs]; rfl)))))
            clear hA EE h8 hs
            go_wp2
            go_ret
            exact ⟨by rw [E.out]; rfl, S2.out⟩
      · have f1 : (0 : Int) < (k : Int) := by omega
        by_cases hs : st = 2
        · subst hs
          have hA : argsB ag 2 = true := by rw [EE, decide_eq_true rfl]; simp
          by_cases h8 : n8 = 0
          · subst h8
            have E : Hid (vtB ((x0, x1, zs, x3, x4, x5, ()), (2 : Int), ag, ps, be, ()) = true) := vt_yes hG.out HK.out.1 hA (by unfold partB; show (decide (ps.length = 0) || _) = true; rw [HR.out.2.2]; rfl) HK.out.2.1
            clear hA EE
            go_wp2
            go_ret
            exact ⟨by rw [E.out]; rfl, S2.out⟩
          · have f8 : ((n8 : Int) == 0) = false := by simp; omega
            have E : Hid (vtB ((x0, x1, zs, x3, x4, x5, ()), (2 : Int), ag, ps, be, ()) = false) := vt_no (.inr (.inr (.inr (.inl (by unfold partB; show (decide (ps.length = 0) || _) = false; rw [HR.out.2.2, decide_eq_false h8]; rfl)))))
            clear hA EE h8
            go_wp2
            go_ret
            exact ⟨by rw [E.out]; rfl, S2.out⟩
        · have f2 : (st != 2) = true := by simp [hs]
          have E : Hid (vtB ((x0, x1, zs, x3, x4, x5, ()), st, ag, ps, be, ()) = false) := vt_no (.inr (.inr (.inl (by show argsB ag st = false; rw [EE, decide_eq_false hn7, decide_eq_false hs]; rfl))))
          clear EE hs hn7
          go_wp2
          go_ret
          exact ⟨by rw [E.out]; rfl, S2.out⟩

end Go.Proofs.YtojalheohpkdoaaDoor
