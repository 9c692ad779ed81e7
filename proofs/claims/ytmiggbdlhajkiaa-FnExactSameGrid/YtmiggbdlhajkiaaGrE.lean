/-
  SameGrid of both sides; slices.Equal at ints. By program (gregen.py).
-/
import Derived.Test.YtmiggbdlhajkiaaGrP
import Derived.Test.YtmiggbdlhajkiaaVI
import Derived.Test.YtmiggbdlhajkiaaTyGrid
import Derived.BigQuiet
namespace Go.Proofs.Ytmiggbdlhajkiaa
open Go.RowKit
set_option linter.unusedVariables false
set_option linter.unusedSimpArgs false

def sameB (a b : GrD) : Bool := decide (a = b)
theorem bel_drE {B : Nat} {x w : World} (h : Below B x w) (q : Nat) : Below B x (w.drewN q) := ⟨h.os, h.tape, h.output, h.size, h.block⟩
theorem eqL {zs us : List Int} (hl : zs.length = us.length) (h : ∀ j, j < zs.length → zs[j]?.getD 0 = us[j]?.getD 0) : zs = us := by
  refine List.ext_getElem hl fun i h1 h2 => ?_
  have := h i h1
  simpa [h1, h2] using this
theorem neL {zs us : List Int} {j : Nat} (h : ¬ zs[j]?.getD 0 = us[j]?.getD 0) : ¬ zs = us := fun e => h (by rw [e])

set_option maxRecDepth 100000 in
set_option maxHeartbeats 2000000 in
theorem equal_any (a b : Option Addr) (n m c k : Nat) (zs us : List Int) (w : World) (hr1 : Reads (.sl .int) w [.slice a n c] zs) (hr2 : Reads (.sl .int) w [.slice b m k] us) :
    Calls Try.prog 29 #[.slice a n c, .slice b m k] w fun e w' => e = .returned (.bool (decide (zs = us))) ∧ Below w.heap.size w w' := by
  obtain ⟨hl1, hrd1, hc1, hm1⟩ := reads_ints hr1
  obtain ⟨hl2, hrd2, hc2, hm2⟩ := reads_ints hr2
  have hn1 : n ≤ maxLen := by omega
  have hn2 : m ≤ maxLen := by omega
  unfold maxLen at hn1 hn2
  have HR : Hid (RdI w a zs ∧ RdI w b us) := ⟨hrd1, hrd2⟩
  by_cases hnm : n = m
  · subst hnm
    have HL : Hid (zs.length = n ∧ us.length = n) := ⟨hl1, hl2⟩
    have HB0 : Hid (Below w.heap.size w w) := Below.refl _ _
    have dn : ((n : Int) != (n : Int)) = false := by simp
    clear hr1 hr2 hrd1 hrd2 hl1 hl2 hc1 hc2 hm1 hm2 hn2
    go_enter Try.func29, Try.ntmps29
    go_wp2
    go_loopw [13] (fun i wr => ∃ j : Nat, j ≤ n ∧ i = .int .i64 j ∧ (∀ l, l < j → zs[l]?.getD 0 = us[l]?.getD 0) ∧ ∃ q, wr = w.drewN q) (fun i _ => n - (intOf i).toNat)
    case atStart => exact ⟨0, Nat.zero_le _, rfl, fun l hl => by omega, 0, rfl⟩
    case round =>
      obtain ⟨j, hj, rfl, hall, q, rfl⟩ := hrel
      have HA : Hid (∀ l, l < j → zs[l]?.getD 0 = us[l]?.getD 0) := hall
      clear hall
      by_cases hlt : j < n
      · have hne1 : zs ≠ [] := by intro h; have := HL.out.1; subst h; simp at this; omega
        have hne2 : us ≠ [] := by intro h; have := HL.out.2; subst h; simp at this; omega
        obtain ⟨b1, o1, rfl, hb1, hc1⟩ := HR.out.1.resolve_left hne1
        obtain ⟨b2, o2, rfl, hb2, hc2⟩ := HR.out.2.resolve_left hne2
        obtain ⟨v1, hv1⟩ : ∃ v, v = zs[j]?.getD 0 := ⟨_, rfl⟩
        obtain ⟨v2, hv2⟩ : ∃ v, v = us[j]?.getD 0 := ⟨_, rfl⟩
        have g1 : w.cell? ⟨b1, o1 + j, none⟩ = some (.int .i64 v1) := by rw [hv1]; exact (HB0.out.cell (p := ⟨b1, o1 + j, none⟩) hb1).trans (hc1 j (by have := HL.out.1; omega))
        have g2 : w.cell? ⟨b2, o2 + j, none⟩ = some (.int .i64 v2) := by rw [hv2]; exact (HB0.out.cell (p := ⟨b2, o2 + j, none⟩) hb2).trans (hc2 j (by have := HL.out.2; omega))
        have hlt' : (j : Int) < (n : Int) := by omega
        have HV : Hid (v1 = zs[j]?.getD 0 ∧ v2 = us[j]?.getD 0) := ⟨hv1, hv2⟩
        clear hc1 hc2 hne1 hne2 hv1 hv2
        by_cases hv : v1 = v2
        · have HA2 : Hid (∀ l, l < j + 1 → zs[l]?.getD 0 = us[l]?.getD 0) := fun l hl => by
            by_cases e : l = j
            · subst e; rw [← HV.out.1, ← HV.out.2]; exact hv
            · exact HA.out l (by omega)
          subst hv
          go_wp2
          go_quiet (fail)
          go_wp2
          go_roundw
          case rel => exact ⟨j + 1, by omega, by go_num, HA2.out, _, rfl⟩
          case measure => simp [intOf]; omega
        · have dv : (v1 != v2) = true := by simp [hv]
          have hn : ¬ zs = us := neL (j := j) (by rw [← HV.out.1, ← HV.out.2]; exact hv)
          have E : Hid (decide (zs = us) = false) := decide_eq_false hn
          clear hn hv
          go_wp2
          go_quiet (fail)
          go_wp2
          go_ret
          exact ⟨by rw [E.out]; rfl, (by first | exact bel_drE HB0.out _ | exact bel_drE (bel_drE HB0.out _) _)⟩
      · have e : j = n := by omega
        have hee : zs = us := eqL (by rw [HL.out.1, HL.out.2]) (fun l hl => HA.out l (by rw [e, ← HL.out.1]; exact hl))
        have E : Hid (decide (zs = us) = true) := decide_eq_true hee
        clear hee
        subst e
        go_wp2
        go_ret
        exact ⟨by rw [E.out]; rfl, bel_drE HB0.out _⟩
  · have dn : ((n : Int) != (m : Int)) = true := by simp; omega
    have E : Hid (decide (zs = us) = false) := decide_eq_false (fun e => hnm (by rw [← hl1, ← hl2, e]))
    clear hr1 hr2 hrd1 hrd2 hl1 hl2 hc1 hc2 hm1 hm2 hnm
    go_enter Try.func29, Try.ntmps29
    go_wp2
    go_ret
    exact ⟨by rw [E.out]; rfl, Below.refl _ _⟩

set_option maxRecDepth 100000 in
set_option maxHeartbeats 4000000 in
theorem specSame_any (x0 x1 x3 x4 y0 y1 y3 y4 : Int) (a b : Option Addr) (n m c k : Nat) (x5 y5 : Bool) (zs us : List Int) (w : World) (hr1 : Reads (.sl .int) w [.slice a n c] zs) (hr2 : Reads (.sl .int) w [.slice b m k] us) :
    Calls Try.prog 12 #[.agg #[.int .i64 x0, .int .i64 x1, .slice a n c, .int .i64 x3, .int .i64 x4, .bool x5], .agg #[.int .i64 y0, .int .i64 y1, .slice b m k, .int .i64 y3, .int .i64 y4, .bool y5]] w fun e w' => e = .returned (.bool (sameB ((x0, x1, zs, x3, x4, x5, ()) : GrD) ((y0, y1, us, y3, y4, y5, ()) : GrD))) ∧ Below w.heap.size w w' := by
  obtain ⟨hl1, hrd1, hc1, hm1⟩ := reads_ints hr1
  obtain ⟨hl2, hrd2, hc2, hm2⟩ := reads_ints hr2
  have hn1 : n ≤ maxLen := by omega
  have hn2 : m ≤ maxLen := by omega
  unfold maxLen at hn1 hn2
  have HR : Hid (RdI w a zs ∧ RdI w b us) := ⟨hrd1, hrd2⟩
  have HRR : Hid (Reads (.sl .int) w [.slice a n c] zs ∧ Reads (.sl .int) w [.slice b m k] us) := ⟨hr1, hr2⟩
  have HLL : Hid (zs.length = n ∧ us.length = m) := ⟨hl1, hl2⟩
  have bW : Below w.heap.size w ((w.alloc (.cells #[.int .i64 x0, .int .i64 x1, .slice a n c, .int .i64 x3, .int .i64 x4, .bool x5] 26)).alloc (.cells #[.int .i64 y0, .int .i64 y1, .slice b m k, .int .i64 y3, .int .i64 y4, .bool y5] 26)) := ((Below.refl _ _).alloc (Nat.le_refl _) _).alloc (by simp) _
  have HBW : Hid (Below w.heap.size w _) := bW
  clear bW hr1 hr2 hrd1 hrd2 hl1 hl2 hc1 hc2 hm1 hm2
  by_cases h0 : x0 = y0
  rotate_left
  · have d0 : (x0 != y0) = true := by simp [h0]
    have E : Hid (sameB ((x0, x1, zs, x3, x4, x5, ()) : GrD) ((y0, y1, us, y3, y4, y5, ()) : GrD) = false) := decide_eq_false (fun e => by simp only [Prod.mk.injEq] at e; exact h0 e.1)
    clear h0
    go_enter Try.func12, Try.ntmps12
    go_wp2
    go_ret
    exact ⟨by rw [E.out]; rfl, HBW.out⟩
  have d0 : (x0 != y0) = false := by simp [h0]
  have H0 : Hid (x0 = y0) := h0
  clear h0
  by_cases h1 : x1 = y1
  rotate_left
  · have d1 : (x1 != y1) = true := by simp [h1]
    have E : Hid (sameB ((x0, x1, zs, x3, x4, x5, ()) : GrD) ((y0, y1, us, y3, y4, y5, ()) : GrD) = false) := decide_eq_false (fun e => by simp only [Prod.mk.injEq] at e; exact h1 e.2.1)
    clear h1
    go_enter Try.func12, Try.ntmps12
    go_wp2
    go_ret
    exact ⟨by rw [E.out]; rfl, HBW.out⟩
  have d1 : (x1 != y1) = false := by simp [h1]
  have H1 : Hid (x1 = y1) := h1
  clear h1
  by_cases h2 : x3 = y3
  rotate_left
  · have d2 : (x3 != y3) = true := by simp [h2]
    have E : Hid (sameB ((x0, x1, zs, x3, x4, x5, ()) : GrD) ((y0, y1, us, y3, y4, y5, ()) : GrD) = false) := decide_eq_false (fun e => by simp only [Prod.mk.injEq] at e; exact h2 e.2.2.2.1)
    clear h2
    go_enter Try.func12, Try.ntmps12
    go_wp2
    go_ret
    exact ⟨by rw [E.out]; rfl, HBW.out⟩
  have d2 : (x3 != y3) = false := by simp [h2]
  have H2 : Hid (x3 = y3) := h2
  clear h2
  by_cases h3 : x4 = y4
  rotate_left
  · have d3 : (x4 != y4) = true := by simp [h3]
    have E : Hid (sameB ((x0, x1, zs, x3, x4, x5, ()) : GrD) ((y0, y1, us, y3, y4, y5, ()) : GrD) = false) := decide_eq_false (fun e => by simp only [Prod.mk.injEq] at e; exact h3 e.2.2.2.2.1)
    clear h3
    go_enter Try.func12, Try.ntmps12
    go_wp2
    go_ret
    exact ⟨by rw [E.out]; rfl, HBW.out⟩
  have d3 : (x4 != y4) = false := by simp [h3]
  have H3 : Hid (x4 = y4) := h3
  clear h3
  by_cases h5 : x5 = y5
  rotate_left
  · have E : Hid (sameB ((x0, x1, zs, x3, x4, x5, ()) : GrD) ((y0, y1, us, y3, y4, y5, ()) : GrD) = false) := decide_eq_false (fun e => by simp only [Prod.mk.injEq] at e; exact h5 e.2.2.2.2.2.1)
    cases x5 <;> cases y5 <;> first
    | exact absurd rfl h5
    | (clear h5
       go_enter Try.func12, Try.ntmps12
       go_wp2
       go_ret
       exact ⟨by rw [E.out]; rfl, HBW.out⟩)
  subst h5
  by_cases hnm : n = m
  rotate_left
  · have dn : ((n : Int) != (m : Int)) = true := by simp; omega
    have E : Hid (sameB ((x0, x1, zs, x3, x4, x5, ()) : GrD) ((y0, y1, us, y3, y4, x5, ()) : GrD) = false) := decide_eq_false (fun e => by simp only [Prod.mk.injEq] at e; exact hnm (by rw [← HLL.out.1, ← HLL.out.2, e.2.2.1]))
    clear hnm
    go_enter Try.func12, Try.ntmps12
    go_wp2
    go_ret
    exact ⟨by rw [E.out]; rfl, HBW.out⟩
  · subst hnm
    have HL : Hid (zs.length = n ∧ us.length = n) := HLL.out
    have dn : ((n : Int) != (n : Int)) = false := by simp
    have hA : ((w.alloc (.cells #[.int .i64 x0, .int .i64 x1, .slice a n c, .int .i64 x3, .int .i64 x4, .bool x5] 26)).alloc (.cells #[.int .i64 y0, .int .i64 y1, .slice b n k, .int .i64 y3, .int .i64 y4, .bool x5] 26)).heap[w.heap.size]? = some (.cells #[.int .i64 x0, .int .i64 x1, .slice a n c, .int .i64 x3, .int .i64 x4, .bool x5] 26 (0, 0)) := by rw [heap_alloc_old _ _ (by simp)]; exact heap_alloc_new w _
    have hB : ((w.alloc (.cells #[.int .i64 x0, .int .i64 x1, .slice a n c, .int .i64 x3, .int .i64 x4, .bool x5] 26)).alloc (.cells #[.int .i64 y0, .int .i64 y1, .slice b n k, .int .i64 y3, .int .i64 y4, .bool x5] 26)).heap[w.heap.size + 1]? = some (.cells #[.int .i64 y0, .int .i64 y1, .slice b n k, .int .i64 y3, .int .i64 y4, .bool x5] 26 (0, 0)) := by have := heap_alloc_new (w.alloc (.cells #[.int .i64 x0, .int .i64 x1, .slice a n c, .int .i64 x3, .int .i64 x4, .bool x5] 26)) (.cells #[.int .i64 y0, .int .i64 y1, .slice b n k, .int .i64 y3, .int .i64 y4, .bool x5] 26); simpa using this
    obtain ⟨W0, hW0⟩ : ∃ W0, W0 = (w.alloc (.cells #[.int .i64 x0, .int .i64 x1, .slice a n c, .int .i64 x3, .int .i64 x4, .bool x5] 26)).alloc (.cells #[.int .i64 y0, .int .i64 y1, .slice b n k, .int .i64 y3, .int .i64 y4, .bool x5] 26) := ⟨_, rfl⟩
    have HB0 : Hid (Below w.heap.size w W0) := by show Below _ _ _; rw [hW0]; exact HBW.out
    rw [← hW0] at hA hB
    have HW0 : Hid (W0 = _) := hW0
    have HAB : Hid (W0.heap[w.heap.size]? = some (.cells #[.int .i64 x0, .int .i64 x1, .slice a n c, .int .i64 x3, .int .i64 x4, .bool x5] 26 (0, 0)) ∧ W0.heap[w.heap.size + 1]? = some (.cells #[.int .i64 y0, .int .i64 y1, .slice b n k, .int .i64 y3, .int .i64 y4, .bool x5] 26 (0, 0))) := ⟨hA, hB⟩
    clear hA hB hW0
    go_enter Try.func12, Try.ntmps12
    go_wp2
    rw [← HW0.out]
    have YC : Hid (W0.cell? ⟨w.heap.size, 2, none⟩ = some (.slice a n c) ∧ W0.cell? ⟨w.heap.size + 1, 2, none⟩ = some (.slice b n k)) := ⟨box_cell HAB.out.1 rfl, box_cell HAB.out.2 rfl⟩
    go_loopw [51] (fun i wr => ∃ j : Nat, j ≤ n ∧ i = .int .i64 j ∧ (∀ l, l < j → zs[l]?.getD 0 = us[l]?.getD 0) ∧ ∃ q, wr = W0.drewN q) (fun i _ => n - (intOf i).toNat)
    case atStart => exact ⟨0, Nat.zero_le _, rfl, fun l hl => by omega, 0, rfl⟩
    case round =>
      obtain ⟨j, hj, rfl, hall, q, rfl⟩ := hrel
      have HA : Hid (∀ l, l < j → zs[l]?.getD 0 = us[l]?.getD 0) := hall
      clear hall
      by_cases hlt : j < n
      · have hne1 : zs ≠ [] := by intro h; have := HL.out.1; subst h; simp at this; omega
        have hne2 : us ≠ [] := by intro h; have := HL.out.2; subst h; simp at this; omega
        obtain ⟨b1, o1, rfl, hb1, hc1⟩ := HR.out.1.resolve_left hne1
        obtain ⟨b2, o2, rfl, hb2, hc2⟩ := HR.out.2.resolve_left hne2
        obtain ⟨v1, hv1⟩ : ∃ v, v = zs[j]?.getD 0 := ⟨_, rfl⟩
        obtain ⟨v2, hv2⟩ : ∃ v, v = us[j]?.getD 0 := ⟨_, rfl⟩
        have g1 : W0.cell? ⟨b1, o1 + j, none⟩ = some (.int .i64 v1) := by rw [hv1]; exact (HB0.out.cell (p := ⟨b1, o1 + j, none⟩) hb1).trans (hc1 j (by have := HL.out.1; omega))
        have g2 : W0.cell? ⟨b2, o2 + j, none⟩ = some (.int .i64 v2) := by rw [hv2]; exact (HB0.out.cell (p := ⟨b2, o2 + j, none⟩) hb2).trans (hc2 j (by have := HL.out.2; omega))
        have ys := YC.out
        obtain ⟨ys1, ys2⟩ := ys
        have hlt' : (j : Int) < (n : Int) := by omega
        have HV : Hid (v1 = zs[j]?.getD 0 ∧ v2 = us[j]?.getD 0) := ⟨hv1, hv2⟩
        clear hc1 hc2 hne1 hne2 hv1 hv2
        by_cases hv : v1 = v2
        · have HA2 : Hid (∀ l, l < j + 1 → zs[l]?.getD 0 = us[l]?.getD 0) := fun l hl => by
            by_cases e : l = j
            · subst e; rw [← HV.out.1, ← HV.out.2]; exact hv
            · exact HA.out l (by omega)
          subst hv
          go_wp2
          go_quiet (fail)
          go_wp2
          go_roundw
          case rel => exact ⟨j + 1, by omega, by go_num, HA2.out, _, rfl⟩
          case measure => simp [intOf]; omega
        · have dv : (v1 != v2) = true := by simp [hv]
          have hn : ¬ zs = us := neL (j := j) (by rw [← HV.out.1, ← HV.out.2]; exact hv)
          have E : Hid (sameB ((x0, x1, zs, x3, x4, x5, ()) : GrD) ((y0, y1, us, y3, y4, x5, ()) : GrD) = false) := decide_eq_false (fun e => by simp only [Prod.mk.injEq] at e; exact hn e.2.2.1)
          clear hn hv
          go_wp2
          go_quiet (fail)
          go_wp2
          go_ret
          exact ⟨by rw [E.out]; rfl, (by first | exact bel_drE HB0.out _ | exact bel_drE (bel_drE HB0.out _) _)⟩
      · have e : j = n := by omega
        have hee : zs = us := eqL (by rw [HL.out.1, HL.out.2]) (fun l hl => HA.out l (by rw [e, ← HL.out.1]; exact hl))
        have E : Hid (sameB ((x0, x1, zs, x3, x4, x5, ()) : GrD) ((y0, y1, us, y3, y4, x5, ()) : GrD) = true) := decide_eq_true (by rw [H0.out, H1.out, H2.out, H3.out, hee])
        clear hee
        subst e
        go_wp2
        go_ret
        exact ⟨by rw [E.out]; rfl, bel_drE HB0.out _⟩

set_option maxRecDepth 100000 in
set_option maxHeartbeats 4000000 in
theorem implSame_any (x0 x1 x3 x4 y0 y1 y3 y4 : Int) (a b : Option Addr) (n m c k : Nat) (x5 y5 : Bool) (zs us : List Int) (w : World) (hr1 : Reads (.sl .int) w [.slice a n c] zs) (hr2 : Reads (.sl .int) w [.slice b m k] us) :
    Calls Try.prog 13 #[.agg #[.int .i64 x0, .int .i64 x1, .slice a n c, .int .i64 x3, .int .i64 x4, .bool x5], .agg #[.int .i64 y0, .int .i64 y1, .slice b m k, .int .i64 y3, .int .i64 y4, .bool y5]] w fun e w' => e = .returned (.bool (sameB ((x0, x1, zs, x3, x4, x5, ()) : GrD) ((y0, y1, us, y3, y4, y5, ()) : GrD))) ∧ Below w.heap.size w w' := by
  obtain ⟨hl1, hrd1, hc1, hm1⟩ := reads_ints hr1
  obtain ⟨hl2, hrd2, hc2, hm2⟩ := reads_ints hr2
  have hn1 : n ≤ maxLen := by omega
  have hn2 : m ≤ maxLen := by omega
  unfold maxLen at hn1 hn2
  have HR : Hid (RdI w a zs ∧ RdI w b us) := ⟨hrd1, hrd2⟩
  have HRR : Hid (Reads (.sl .int) w [.slice a n c] zs ∧ Reads (.sl .int) w [.slice b m k] us) := ⟨hr1, hr2⟩
  have HLL : Hid (zs.length = n ∧ us.length = m) := ⟨hl1, hl2⟩
  have bW : Below w.heap.size w ((w.alloc (.cells #[.int .i64 x0, .int .i64 x1, .slice a n c, .int .i64 x3, .int .i64 x4, .bool x5] 26)).alloc (.cells #[.int .i64 y0, .int .i64 y1, .slice b m k, .int .i64 y3, .int .i64 y4, .bool y5] 26)) := ((Below.refl _ _).alloc (Nat.le_refl _) _).alloc (by simp) _
  have HBW : Hid (Below w.heap.size w _) := bW
  clear bW hr1 hr2 hrd1 hrd2 hl1 hl2 hc1 hc2 hm1 hm2
  by_cases h0 : x0 = y0
  rotate_left
  · have d0 : (x0 == y0) = false := by simp [h0]
    have E : Hid (sameB ((x0, x1, zs, x3, x4, x5, ()) : GrD) ((y0, y1, us, y3, y4, y5, ()) : GrD) = false) := decide_eq_false (fun e => by simp only [Prod.mk.injEq] at e; exact h0 e.1)
    clear h0
    go_enter Try.func13, Try.ntmps13
    go_wp2
    go_ret
    exact ⟨by rw [E.out]; rfl, HBW.out⟩
  have d0 : (x0 == y0) = true := by simp [h0]
  have H0 : Hid (x0 = y0) := h0
  clear h0
  by_cases h1 : x1 = y1
  rotate_left
  · have d1 : (x1 == y1) = false := by simp [h1]
    have E : Hid (sameB ((x0, x1, zs, x3, x4, x5, ()) : GrD) ((y0, y1, us, y3, y4, y5, ()) : GrD) = false) := decide_eq_false (fun e => by simp only [Prod.mk.injEq] at e; exact h1 e.2.1)
    clear h1
    go_enter Try.func13, Try.ntmps13
    go_wp2
    go_ret
    exact ⟨by rw [E.out]; rfl, HBW.out⟩
  have d1 : (x1 == y1) = true := by simp [h1]
  have H1 : Hid (x1 = y1) := h1
  clear h1
  by_cases h2 : x3 = y3
  rotate_left
  · have d2 : (x3 == y3) = false := by simp [h2]
    have E : Hid (sameB ((x0, x1, zs, x3, x4, x5, ()) : GrD) ((y0, y1, us, y3, y4, y5, ()) : GrD) = false) := decide_eq_false (fun e => by simp only [Prod.mk.injEq] at e; exact h2 e.2.2.2.1)
    clear h2
    go_enter Try.func13, Try.ntmps13
    go_wp2
    go_ret
    exact ⟨by rw [E.out]; rfl, HBW.out⟩
  have d2 : (x3 == y3) = true := by simp [h2]
  have H2 : Hid (x3 = y3) := h2
  clear h2
  by_cases h3 : x4 = y4
  rotate_left
  · have d3 : (x4 == y4) = false := by simp [h3]
    have E : Hid (sameB ((x0, x1, zs, x3, x4, x5, ()) : GrD) ((y0, y1, us, y3, y4, y5, ()) : GrD) = false) := decide_eq_false (fun e => by simp only [Prod.mk.injEq] at e; exact h3 e.2.2.2.2.1)
    clear h3
    go_enter Try.func13, Try.ntmps13
    go_wp2
    go_ret
    exact ⟨by rw [E.out]; rfl, HBW.out⟩
  have d3 : (x4 == y4) = true := by simp [h3]
  have H3 : Hid (x4 = y4) := h3
  clear h3
  by_cases h5 : x5 = y5
  rotate_left
  · have E : Hid (sameB ((x0, x1, zs, x3, x4, x5, ()) : GrD) ((y0, y1, us, y3, y4, y5, ()) : GrD) = false) := decide_eq_false (fun e => by simp only [Prod.mk.injEq] at e; exact h5 e.2.2.2.2.2.1)
    cases x5 <;> cases y5 <;> first
    | exact absurd rfl h5
    | (clear h5
       go_enter Try.func13, Try.ntmps13
       go_wp2
       go_ret
       exact ⟨by rw [E.out]; rfl, HBW.out⟩)
  subst h5
  have qe : Hid (∀ w', Below w.heap.size w w' → Calls Try.prog 29 #[.slice a n c, .slice b m k] w' fun e w'' => e = .returned (.bool (decide (zs = us))) ∧ Below w'.heap.size w' w'') := fun w' hb => equal_any a b n m c k zs us w' (HRR.out.1.later hb) (HRR.out.2.later hb)
  have E : Hid (sameB ((x0, x1, zs, x3, x4, x5, ()) : GrD) ((y0, y1, us, y3, y4, x5, ()) : GrD) = decide (zs = us)) := by
    show _ = _
    unfold sameB
    exact decide_eq_decide.2 ⟨fun e => by simp only [Prod.mk.injEq] at e; exact e.2.2.1, fun e => by rw [H0.out, H1.out, H2.out, H3.out, e]⟩
  obtain ⟨r, hr⟩ : ∃ r, r = decide (zs = us) := ⟨_, rfl⟩
  rw [← hr] at qe E
  clear hr
  go_enter Try.func13, Try.ntmps13
  go_wp2_with fail
  refine (qe.out _ HBW.out).mono ?_
  rintro e w2 ⟨rfl, hb2⟩
  go_wp2
  go_ret
  exact ⟨by rw [E.out]; rfl, HBW.out.trans (hb2.mono HBW.out.size)⟩

end Go.Proofs.Ytmiggbdlhajkiaa
