/-
  The model's GridOk.
-/
import Derived.Test.YthgbionamelloaaDoorGrG
namespace Go.Proofs.YthgbionamelloaaDoor
open Go.RowKit
set_option linter.unusedVariables false

theorem belowD {B : Nat} {w w' : World} (h : Below B w w') (q : Nat) : Below B w (w'.drewN q) := by
  induction q with
  | zero => exact h
  | succ q ih => exact ih.drew

theorem cellB_half0 {c : List Int} {W k : Nat} (h : at0 c k = -1) (hm : k % W = 0) : cellB c W k = false := by
  unfold cellB; rw [if_pos h, hm]; rfl
theorem cellB_half {c : List Int} {W k : Nat} (h : at0 c k = -1) (hm : k % W ≠ 0) : cellB c W k = decide (wd (at0 c (k - 1)) = 2) := by
  unfold cellB; rw [if_pos h, decide_eq_true hm]; rfl
theorem cellB_none {c : List Int} {W k : Nat} (h : at0 c k ≠ -1) (hw : wd (at0 c k) = 0) : cellB c W k = false := by
  unfold cellB; rw [if_neg h, hw]; simp
theorem cellB_one {c : List Int} {W k : Nat} (h : at0 c k ≠ -1) (hw : wd (at0 c k) = 1) : cellB c W k = true := by
  unfold cellB; rw [if_neg h, hw]; simp
theorem cellB_two {c : List Int} {W k : Nat} (h : at0 c k ≠ -1) (hw : wd (at0 c k) = 2) : cellB c W k = (decide (k % W ≠ W - 1) && decide (at0 c (k + 1) = -1)) := by
  unfold cellB; rw [if_neg h, hw]; simp

theorem cellsB_succ {c : List Int} {W k : Nat} (h : cellsB c W k = true) (h' : cellB c W k = true) : cellsB c W (k + 1) = true := by
  rw [cellsB, h, h']; rfl

theorem not_last {W H k : Nat} (hW : 1 ≤ W) (hk : k < W * H) (hm : k % W ≠ W - 1) : k + 1 < W * H := by
  rcases Nat.lt_or_ge (k + 1) (W * H) with h | h
  · exact h
  · exfalso
    have e : k + 1 = W * H := by omega
    have h1 : (k + 1) % W = 0 := by rw [e]; exact Nat.mul_mod_right _ _
    have h2 := Nat.div_add_mod k W
    have h3 := Nat.mod_lt k (show W > 0 by omega)
    have h4 : k + 1 = (k % W + 1) + W * (k / W) := by omega
    rw [h4, Nat.add_mul_mod_self_left, Nat.mod_eq_of_lt (by omega)] at h1
    omega

set_option maxRecDepth 100000 in
set_option maxHeartbeats 4000000 in
theorem specGok_three (W H b off c n : Nat) (x3 x4 : Int) (x5 : Bool) (zs : List Int) (w : World) (h1 : 2 ≤ W) (h2 : W ≤ 200) (h3 : 1 ≤ H) (h4 : H ≤ 200) (h5 : (W : Int) * (H : Int) ≤ 8000) (hn : n = W * H) (hl : zs.length = n) (hr : RdI w (some ⟨b, off, none⟩) zs) (hc : n ≤ c) (hm : c ≤ maxLen) :
    Calls Tryd.prog 14 #[.agg #[.int .i64 W, .int .i64 H, .slice (some ⟨b, off, none⟩) n c, .int .i64 x3, .int .i64 x4, .bool x5]] w fun e w' => e = .returned (.bool (cellsB zs W n && cursB W H x3 x4 x5)) ∧ Below w.heap.size w w' := by
  unfold maxLen at hm
  have hpr : (W : Int) * (H : Int) = (n : Int) := by rw [hn]; simp
  have hbd := mul_bd (x := W) (y := H) (by omega) (by omega) (by omega) (by omega)
  rw [hpr] at hbd h5
  have w1' : IntKind.i64.wrap (n : Int) = (n : Int) := wrap_i64_in _ (by omega) (by omega)
  have HN : Hid (n = W * H ∧ zs.length = n) := ⟨hn, hl⟩
  obtain ⟨W0, hW0⟩ : ∃ W0, W0 = w.alloc (.cells #[.int .i64 W, .int .i64 H, .slice (some ⟨b, off, none⟩) n c, .int .i64 x3, .int .i64 x4, .bool x5] 29) := ⟨_, rfl⟩
  have bW0 : Below w.heap.size w W0 := by rw [hW0]; exact (Below.refl _ _).alloc (Nat.le_refl _) _
  have hbox : W0.heap[w.heap.size]? = some (.cells #[.int .i64 W, .int .i64 H, .slice (some ⟨b, off, none⟩) n c, .int .i64 x3, .int .i64 x4, .bool x5] 29 (0, 0)) := by rw [hW0]; exact heap_alloc_new w _
  have zW0 : W0.heap.size = w.heap.size + 1 := by rw [hW0]; simp
  have HW0 : Hid (W0 = _) := hW0
  have HBX : Hid (∀ w', Below W0.heap.size W0 w' → w'.heap[w.heap.size]? = some (.cells #[.int .i64 W, .int .i64 H, .slice (some ⟨b, off, none⟩) n c, .int .i64 x3, .int .i64 x4, .bool x5] 29 (0, 0))) := fun w' h' => (h'.block _ (by omega)).trans hbox
  have HC : Hid (∀ w', Below W0.heap.size W0 w' → ∀ i, i < n → w'.cell? ⟨b, off + i, none⟩ = some (.int .i64 (at0 zs i))) := fun w' h' i hi => by
    rcases (hr.later bW0).later h' with h | ⟨b', off', he, hb, hcc⟩
    · rw [h] at hl; simp at hl; omega
    · obtain ⟨rfl, rfl⟩ : b = b' ∧ off = off' := by simpa using he
      exact hcc i (by omega)
  have HB0 : Hid (Below w.heap.size w W0) := bW0
  have lW : ¬ ((W : Int) < 2) := by omega
  have lW2 : ¬ (200 < (W : Int)) := by omega
  have lH : ¬ ((H : Int) < 1) := by omega
  have lH2 : ¬ (200 < (H : Int)) := by omega
  have lP : ¬ (8000 < (n : Int)) := by omega
  have lN : ((n : Int) != (n : Int)) = false := by simp
  have w2' : IntKind.i64.wrap ((W : Int) - 1) = (W : Int) - 1 := wrap_i64_in _ (by omega) (by omega)
  have hW0' : ((W : Int) == 0) = false := by simp; omega
  clear hW0 hbox hn hl hr h5
  go_enter Tryd.func14, Tryd.ntmps14
  go_wp2
  rw [← HW0.out]
  go_loopw [47] (fun i wr => ∃ k : Nat, k ≤ n ∧ i = .int .i64 k ∧ Hid (cellsB zs W k = true) ∧ Below W0.heap.size W0 wr) (fun i _ => n - (intOf i).toNat)
  case atStart => exact ⟨0, Nat.zero_le _, rfl, rfl, Below.refl _ _⟩
  case round =>
    obtain ⟨k, hk, rfl, hB, hbel⟩ := hrel
    have i1 := HBX.out wr hbel
    have zr := hbel.size
    have y0 : wr.cell? ⟨w.heap.size, 0, none⟩ = some (.int .i64 W) := box_cell i1 rfl
    have y1 : wr.cell? ⟨w.heap.size, 1, none⟩ = some (.int .i64 H) := box_cell i1 rfl
    have y2 : wr.cell? ⟨w.heap.size, 2, none⟩ = some (.slice (some ⟨b, off, none⟩) n c) := box_cell i1 rfl
    by_cases hlt : k < n
    · obtain ⟨r, hr⟩ : ∃ r, r = at0 zs k := ⟨_, rfl⟩
      have hcell : wr.cell? ⟨b, off + k, none⟩ = some (.int .i64 r) := by rw [hr]; exact HC.out wr hbel k hlt
      obtain ⟨m, hm'⟩ : ∃ m, m = k % W := ⟨_, rfl⟩
      have hmod : (k : Int) % (W : Int) = (m : Int) := by rw [hm']; simp
      have hmW : m < W := by rw [hm']; exact Nat.mod_lt _ (by omega)
      have HE : Hid (at0 zs k = r ∧ k % W = m) := ⟨hr.symm, hm'.symm⟩
      clear hr hm' i1
      by_cases hr1 : r = -1
      · subst hr1
        by_cases hm0 : m = 0
        · have E : Hid ((cellsB zs W n && cursB W H x3 x4 x5) = false) := by show _ = _; rw [cellsB_no (cellB_half0 HE.out.1 (by rw [HE.out.2, hm0])) hlt]; rfl
          subst hm0
          have hmod0 : (k : Int) % (W : Int) = 0 := hmod
          clear hmod
          go_wp2
          go_quiet (fail)
          go_wp2
          go_ret
          exact ⟨by rw [E.out]; rfl, HB0.out.trans ((belowD hbel _).mono HB0.out.size)⟩
        · have hk0 : k ≠ 0 := by intro h; have h2 := HE.out.2; rw [h, Nat.zero_mod] at h2; omega
          obtain ⟨l, hl⟩ : ∃ l, k = l + 1 := ⟨k - 1, by omega⟩
          have hk1 : (k : Int) - 1 = (l : Int) := by omega
          have hln : (l : Int) < (n : Int) := by omega
          have wl : IntKind.i64.wrap (l : Int) = (l : Int) := wrap_i64_in _ (by omega) (by omega)
          have hm1 : ((m : Int) == 0) = false := by simp; omega
          obtain ⟨p, hp⟩ : ∃ p, p = at0 zs l := ⟨_, rfl⟩
          have hcl : wr.cell? ⟨b, off + l, none⟩ = some (.int .i64 p) := by rw [hp]; exact HC.out wr hbel l (by omega)
          obtain ⟨d, hd⟩ : ∃ d, d = wd p := ⟨_, rfl⟩
          have qd : Hid (∀ w', Calls Tryd.prog 28 #[.int .i64 p] w' fun e w'' => e = .returned (.int .i64 d) ∧ Below w'.heap.size w' w'') := fun w' => by rw [hd]; exact specWid_any p w'
          have HP : Hid (cellB zs W k = decide (d = 2)) := by show _ = _; rw [cellB_half HE.out.1 (by rw [HE.out.2]; exact hm0), hd, hp, show k - 1 = l by omega]
          clear hd hp hl
          by_cases hd2 : d = 2
          · subst hd2
            have HX : Hid (cellsB zs W (k + 1) = true) := cellsB_succ hB.out (by rw [HP.out]; rfl)
            go_wp2
            go_quiet (fail)
            go_wp2_with fail
            refine (qd.out _).mono ?_
            rintro e w1 ⟨rfl, hb1⟩
            have bel1 := (belowD hbel _).trans (hb1.mono (belowD hbel _).size)
            clear hb1
            go_wp2
            go_roundw
            case rel => exact ⟨k + 1, by omega, by go_num, HX, bel1⟩
            case measure => simp [intOf]; omega
          · have E : Hid ((cellsB zs W n && cursB W H x3 x4 x5) = false) := by show _ = _; rw [cellsB_no (by rw [HP.out]; exact decide_eq_false hd2) hlt]; rfl
            have hd3 : (d != 2) = true := by simpa using hd2
            clear hd2
            go_wp2
            go_quiet (fail)
            go_wp2_with fail
            refine (qd.out _).mono ?_
            rintro e w1 ⟨rfl, hb1⟩
            have bel1 := (belowD hbel _).trans (hb1.mono (belowD hbel _).size)
            clear hb1
            go_wp2
            go_ret
            exact ⟨by rw [E.out]; rfl, HB0.out.trans (bel1.mono HB0.out.size)⟩
      · have hr2 : (r == -1) = false := by simpa using hr1
        obtain ⟨d, hd⟩ : ∃ d, d = wd r := ⟨_, rfl⟩
        have qd : Hid (∀ w', Calls Tryd.prog 28 #[.int .i64 r] w' fun e w'' => e = .returned (.int .i64 d) ∧ Below w'.heap.size w' w'') := fun w' => by rw [hd]; exact specWid_any r w'
        have hd3 : d = 0 ∨ d = 1 ∨ d = 2 := by have := wd_bd r; omega
        have hne : at0 zs k ≠ -1 := by rw [HE.out.1]; exact hr1
        rcases hd3 with hd0 | hd0 | hd0
        · have E : Hid ((cellsB zs W n && cursB W H x3 x4 x5) = false) := by show _ = _; rw [cellsB_no (cellB_none hne (by rw [HE.out.1, ← hd]; exact hd0)) hlt]; rfl
          subst hd0
          clear hd hne hr1
          go_wp2
          go_quiet (fail)
          go_wp2_with fail
          refine (qd.out _).mono ?_
          rintro e w1 ⟨rfl, hb1⟩
          have bel1 := (belowD hbel _).trans (hb1.mono (belowD hbel _).size)
          clear hb1
          go_wp2
          go_ret
          exact ⟨by rw [E.out]; rfl, HB0.out.trans (bel1.mono HB0.out.size)⟩
        · have HX : Hid (cellsB zs W (k + 1) = true) := cellsB_succ hB.out (cellB_one hne (by rw [HE.out.1, ← hd]; exact hd0))
          subst hd0
          clear hd hne hr1
          go_wp2
          go_quiet (fail)
          go_wp2_with fail
          refine (qd.out _).mono ?_
          rintro e w1 ⟨rfl, hb1⟩
          have bel1 := (belowD hbel _).trans (hb1.mono (belowD hbel _).size)
          clear hb1
          go_wp2
          go_roundw
          case rel => exact ⟨k + 1, by omega, by go_num, HX, bel1⟩
          case measure => simp [intOf]; omega
        · have hc2 := cellB_two (W := W) hne (by rw [HE.out.1, ← hd]; exact hd0)
          rw [HE.out.2] at hc2
          have HC2 : Hid (_ = _) := hc2
          subst hd0
          clear hd hne hr1 hc2
          by_cases hlast : m = W - 1
          · have E : Hid ((cellsB zs W n && cursB W H x3 x4 x5) = false) := by show _ = _; rw [cellsB_no (by rw [HC2.out, hlast]; simp) hlt]; rfl
            have hla : ((m : Int) == (W : Int) - 1) = true := by simp; omega
            clear hlast
            go_wp2
            go_quiet (fail)
            go_wp2_with fail
            refine (qd.out _).mono ?_
            rintro e w1 ⟨rfl, hb1⟩
            have bel1 := (belowD hbel _).trans (hb1.mono (belowD hbel _).size)
            clear hb1
            go_wp2
            go_ret
            exact ⟨by rw [E.out]; rfl, HB0.out.trans (bel1.mono HB0.out.size)⟩
          · have hla : ((m : Int) == (W : Int) - 1) = false := by simp; omega
            have hk2 : k + 1 < n := by rw [HN.out.1]; exact not_last (by omega) (by rw [← HN.out.1]; exact hlt) (by rw [HE.out.2]; exact hlast)
            have hk3 : (k : Int) + 1 < (n : Int) := by omega
            obtain ⟨p, hp⟩ : ∃ p, p = at0 zs (k + 1) := ⟨_, rfl⟩
            have HP : Hid (cellB zs W k = decide (p = -1)) := by show _ = _; rw [HC2.out, decide_eq_true hlast, hp]; rfl
            have HCP : Hid (∀ w', Below W0.heap.size W0 w' → w'.cell? ⟨b, off + (k + 1), none⟩ = some (.int .i64 p)) := fun w' h' => by rw [hp]; exact HC.out w' h' (k + 1) hk2
            clear hlast hp hk2
            by_cases hp1 : p = -1
            · subst hp1
              have HX : Hid (cellsB zs W (k + 1) = true) := cellsB_succ hB.out (by rw [HP.out]; rfl)
              go_wp2
              go_quiet (fail)
              go_wp2_with fail
              refine (qd.out _).mono ?_
              rintro e w1 ⟨rfl, hb1⟩
              have bel1 := (belowD hbel _).trans (hb1.mono (belowD hbel _).size)
              clear hb1
              have hcp := HCP.out w1 bel1
              have i2 := HBX.out w1 bel1
              have y2' : w1.cell? ⟨w.heap.size, 2, none⟩ = some (.slice (some ⟨b, off, none⟩) n c) := box_cell i2 rfl
              clear i2 y0 y1 y2 hcell
              go_wp2
              go_roundw
              case rel => exact ⟨k + 1, by omega, by go_num, HX, bel1⟩
              case measure => simp [intOf]; omega
            · have E : Hid ((cellsB zs W n && cursB W H x3 x4 x5) = false) := by show _ = _; rw [cellsB_no (by rw [HP.out]; exact decide_eq_false hp1) hlt]; rfl
              have hp2 : (p != -1) = true := by simpa using hp1
              clear hp1
              go_wp2
              go_quiet (fail)
              go_wp2_with fail
              refine (qd.out _).mono ?_
              rintro e w1 ⟨rfl, hb1⟩
              have bel1 := (belowD hbel _).trans (hb1.mono (belowD hbel _).size)
              clear hb1
              have hcp := HCP.out w1 bel1
              have i2 := HBX.out w1 bel1
              have y2' : w1.cell? ⟨w.heap.size, 2, none⟩ = some (.slice (some ⟨b, off, none⟩) n c) := box_cell i2 rfl
              clear i2 y0 y1 y2 hcell
              go_wp2
              go_ret
              exact ⟨by rw [E.out]; rfl, HB0.out.trans (bel1.mono HB0.out.size)⟩
    · have e : k = n := by omega
      rw [e] at hB
      have E0 : Hid ((cellsB zs W n && cursB W H x3 x4 x5) = cursB W H x3 x4 x5) := by show _ = _; rw [hB.out]; rfl
      have hkn : ¬ ((k : Int) < (n : Int)) := by omega
      have y3 : wr.cell? ⟨w.heap.size, 3, none⟩ = some (.int .i64 x3) := box_cell i1 rfl
      have y4 : wr.cell? ⟨w.heap.size, 4, none⟩ = some (.int .i64 x4) := box_cell i1 rfl
      have y5 : wr.cell? ⟨w.heap.size, 5, none⟩ = some (.bool x5) := box_cell i1 rfl
      clear i1 e
      have hc : x3 < 0 ∨ (0 ≤ x3 ∧ (W : Int) ≤ x3) ∨ (0 ≤ x3 ∧ x3 < (W : Int) ∧ x4 < 0) ∨ (0 ≤ x3 ∧ x3 < (W : Int) ∧ 0 ≤ x4 ∧ (H : Int) ≤ x4) ∨ (0 ≤ x3 ∧ x3 < (W : Int) ∧ 0 ≤ x4 ∧ x4 < (H : Int)) := by omega
      rcases hc with h | ⟨g1, h⟩ | ⟨g1, g2, h⟩ | ⟨g1, g2, g3, h⟩ | ⟨g1, g2, g3, g4⟩
      · have E : Hid ((cellsB zs W n && cursB W H x3 x4 x5) = false) := by
          show _ = _
          rw [E0.out]
          cases hs : cursB W H x3 x4 x5 with
          | false => rfl
          | true => exact absurd (cursB_iff.1 hs).1 (by omega)
        have d0 : decide (0 ≤ x3) = false := decide_eq_false (by omega)
        go_wp2
        go_ret
        exact ⟨by rw [E.out]; rfl, HB0.out.trans (hbel.mono HB0.out.size)⟩
      · have E : Hid ((cellsB zs W n && cursB W H x3 x4 x5) = false) := by
          show _ = _
          rw [E0.out]
          cases hs : cursB W H x3 x4 x5 with
          | false => rfl
          | true => exact absurd (cursB_iff.1 hs).2.1 (by omega)
        have d0 : decide (0 ≤ x3) = true := decide_eq_true g1
        have d1 : decide (x3 < (W : Int)) = false := decide_eq_false (by omega)
        go_wp2
        go_ret
        exact ⟨by rw [E.out]; rfl, HB0.out.trans (hbel.mono HB0.out.size)⟩
      · have E : Hid ((cellsB zs W n && cursB W H x3 x4 x5) = false) := by
          show _ = _
          rw [E0.out]
          cases hs : cursB W H x3 x4 x5 with
          | false => rfl
          | true => exact absurd (cursB_iff.1 hs).2.2.1 (by omega)
        have d0 : decide (0 ≤ x3) = true := decide_eq_true g1
        have d1 : decide (x3 < (W : Int)) = true := decide_eq_true g2
        have d2 : decide (0 ≤ x4) = false := decide_eq_false (by omega)
        go_wp2
        go_ret
        exact ⟨by rw [E.out]; rfl, HB0.out.trans (hbel.mono HB0.out.size)⟩
      · have E : Hid ((cellsB zs W n && cursB W H x3 x4 x5) = false) := by
          show _ = _
          rw [E0.out]
          cases hs : cursB W H x3 x4 x5 with
          | false => rfl
          | true => exact absurd (cursB_iff.1 hs).2.2.2.1 (by omega)
        have d0 : decide (0 ≤ x3) = true := decide_eq_true g1
        have d1 : decide (x3 < (W : Int)) = true := decide_eq_true g2
        have d2 : decide (0 ≤ x4) = true := decide_eq_true g3
        have d3 : decide (x4 < (H : Int)) = false := decide_eq_false (by omega)
        go_wp2
        go_ret
        exact ⟨by rw [E.out]; rfl, HB0.out.trans (hbel.mono HB0.out.size)⟩
      · have hp : placeB W H x3 x4 = true := placeB_iff.2 ⟨g1, g2, g3, g4⟩
        have d0 : decide (0 ≤ x3) = true := decide_eq_true g1
        have d1 : decide (x3 < (W : Int)) = true := decide_eq_true g2
        have d2 : decide (0 ≤ x4) = true := decide_eq_true g3
        have d3 : decide (x4 < (H : Int)) = true := decide_eq_true g4
        have h6 : x5 = false ∨ (x5 = true ∧ x3 = (W : Int) - 1) ∨ (x5 = true ∧ x3 ≠ (W : Int) - 1) := by cases x5 <;> simp; omega
        rcases h6 with h6 | ⟨h6, h7⟩ | ⟨h6, h7⟩
        · have E : Hid ((cellsB zs W n && cursB W H x3 x4 x5) = true) := by show _ = _; rw [E0.out]; unfold cursB; rw [hp, h6]; rfl
          subst h6
          clear hp
          go_wp2
          go_ret
          exact ⟨by rw [E.out]; rfl, HB0.out.trans (hbel.mono HB0.out.size)⟩
        · have E : Hid ((cellsB zs W n && cursB W H x3 x4 x5) = true) := by show _ = _; rw [E0.out]; unfold cursB; rw [hp, h6, decide_eq_true h7]; rfl
          subst h6
          have h8 : (x3 == (W : Int) - 1) = true := by simp [h7]
          clear hp h7
          go_wp2
          go_ret
          exact ⟨by rw [E.out]; rfl, HB0.out.trans (hbel.mono HB0.out.size)⟩
        · have E : Hid ((cellsB zs W n && cursB W H x3 x4 x5) = false) := by show _ = _; rw [E0.out]; unfold cursB; rw [hp, h6, decide_eq_false h7]; rfl
          subst h6
          have h8 : (x3 == (W : Int) - 1) = false := by simp [h7]
          clear hp h7
          go_wp2
          go_ret
          exact ⟨by rw [E.out]; rfl, HB0.out.trans (hbel.mono HB0.out.size)⟩

end Go.Proofs.YthgbionamelloaaDoor
