/-
  GridAt of both sides. By program (gratgen.py).
-/
import Derived.Test.YtpceaabbcogioaaGrU
namespace Go.Proofs.Ytpceaabbcogioaa
open Go.RowKit
set_option linter.unusedVariables false

theorem atA_no {d : GrD} {x y : Int} (h : (gokB d && placeB d.1 d.2.1 x y) = false) : atA d x y = 0 := by unfold atA; rw [h]; rfl
theorem atA_yes {d : GrD} {x y : Int} (h : gokB d = true) (h' : placeB d.1 d.2.1 x y = true) : atA d x y = at0 d.2.2.1 (y * d.1 + x).toNat := by unfold atA; rw [h, h']; rfl

set_option maxRecDepth 100000 in
set_option maxHeartbeats 4000000 in
theorem implAt_any (x0 x1 x3 x4 : Int) (a : Option Addr) (n c : Nat) (x5 : Bool) (zs : List Int) (x y : Int) (w : World) (hr : Reads (.sl .int) w [.slice a n c] zs) :
    Calls Try.prog 18 #[.agg #[.int .i64 x0, .int .i64 x1, .slice a n c, .int .i64 x3, .int .i64 x4, .bool x5], .int .i64 x, .int .i64 y] w fun e w' => e = .returned (.int .i64 (atA (x0, x1, zs, x3, x4, x5, ()) x y)) ∧ Below w.heap.size w w' := by
  have hm := (reads_ints hr).2.2.2
  unfold maxLen at hm
  have HR : Hid (Reads (.sl .int) w [.slice a n c] zs) := hr
  obtain ⟨W0, hW0⟩ : ∃ W0, W0 = w.alloc (.cells #[.int .i64 x0, .int .i64 x1, .slice a n c, .int .i64 x3, .int .i64 x4, .bool x5] 27) := ⟨_, rfl⟩
  have bW0 : Below w.heap.size w W0 := by rw [hW0]; exact (Below.refl _ _).alloc (Nat.le_refl _) _
  have hbox : W0.heap[w.heap.size]? = some (.cells #[.int .i64 x0, .int .i64 x1, .slice a n c, .int .i64 x3, .int .i64 x4, .bool x5] 27 (0, 0)) := by rw [hW0]; exact heap_alloc_new w _
  have zW0 : W0.heap.size = w.heap.size + 1 := by rw [hW0]; simp
  have HW0 : Hid (W0 = _) := hW0
  have HBX : Hid (∀ w', Below W0.heap.size W0 w' → w'.heap[w.heap.size]? = some (.cells #[.int .i64 x0, .int .i64 x1, .slice a n c, .int .i64 x3, .int .i64 x4, .bool x5] 27 (0, 0))) := fun w' h' => (h'.block _ (by omega)).trans hbox
  have HB0 : Hid (Below w.heap.size w W0) := bW0
  clear hW0 hbox
  have qg : Hid (∀ w', Below w.heap.size w w' → Calls Try.prog 11 #[.agg #[.int .i64 x0, .int .i64 x1, .slice a n c, .int .i64 x3, .int .i64 x4, .bool x5]] w' fun e w'' => e = .returned (.bool (gokB (x0, x1, zs, x3, x4, x5, ()))) ∧ Below w'.heap.size w' w'') := fun w' h' => gok_any x0 x1 x3 x4 a n c x5 zs w' (hr.later h')
  clear hr
  have hb00 : Below W0.heap.size W0 W0 := Below.refl _ _
  have i_W0 := HBX.out W0 hb00
  have y0 : W0.cell? ⟨w.heap.size, 0, none⟩ = some (.int .i64 x0) := box_cell i_W0 rfl
  have y1 : W0.cell? ⟨w.heap.size, 1, none⟩ = some (.int .i64 x1) := box_cell i_W0 rfl
  have y2 : W0.cell? ⟨w.heap.size, 2, none⟩ = some (.slice a n c) := box_cell i_W0 rfl
  have y3 : W0.cell? ⟨w.heap.size, 3, none⟩ = some (.int .i64 x3) := box_cell i_W0 rfl
  have y4 : W0.cell? ⟨w.heap.size, 4, none⟩ = some (.int .i64 x4) := box_cell i_W0 rfl
  have y5 : W0.cell? ⟨w.heap.size, 5, none⟩ = some (.bool x5) := box_cell i_W0 rfl
  clear i_W0
  by_cases hg : gokB (x0, x1, zs, x3, x4, x5, ()) = true
  rotate_left
  · have hg' : gokB (x0, x1, zs, x3, x4, x5, ()) = false := by simpa using hg
    have E : Hid (atA (x0, x1, zs, x3, x4, x5, ()) x y = 0) := atA_no (by rw [hg']; rfl)
    rw [hg'] at qg
    clear hg hg'
    go_enter Try.func18, Try.ntmps18
    go_wp2_with fail
    rw [← HW0.out]
    refine (qg.out _ HB0.out).mono ?_
    rintro e w1 ⟨rfl, hb1⟩
    have b1 := HB0.out.trans (hb1.mono HB0.out.size)
    clear y0 y1 y2 y3 y4 y5
    go_wp2
    go_ret
    exact ⟨by rw [E.out]; rfl, b1⟩
  · have HG : Hid (gokB (x0, x1, zs, x3, x4, x5, ()) = true) := hg
    rw [hg] at qg
    clear hg
    by_cases hp : placeB x0 x1 x y = true
    rotate_left
    · have hp' : placeB x0 x1 x y = false := by simpa using hp
      have E : Hid (atA (x0, x1, zs, x3, x4, x5, ()) x y = 0) := atA_no (by show (_ && placeB x0 x1 x y) = false; rw [hp']; simp)
      have qp : Hid (∀ w', Calls Try.prog 33 #[.agg #[.int .i64 x0, .int .i64 x1, .slice a n c, .int .i64 x3, .int .i64 x4, .bool x5], .int .i64 x, .int .i64 y] w' fun e w'' => e = .returned (.bool false) ∧ Below w'.heap.size w' w'') := fun w' => by rw [← hp']; exact place_any x0 x1 x3 x4 a n c x5 x y w'
      clear hp hp'
      go_enter Try.func18, Try.ntmps18
      go_wp2_with fail
      rw [← HW0.out]
      refine (qg.out _ HB0.out).mono ?_
      rintro e w1 ⟨rfl, hb1⟩
      have b1 := HB0.out.trans (hb1.mono HB0.out.size)
      clear y0 y1 y2 y3 y4 y5
      have i_w1 := HBX.out w1 hb1
      have y0 : w1.cell? ⟨w.heap.size, 0, none⟩ = some (.int .i64 x0) := box_cell i_w1 rfl
      have y1 : w1.cell? ⟨w.heap.size, 1, none⟩ = some (.int .i64 x1) := box_cell i_w1 rfl
      have y2 : w1.cell? ⟨w.heap.size, 2, none⟩ = some (.slice a n c) := box_cell i_w1 rfl
      have y3 : w1.cell? ⟨w.heap.size, 3, none⟩ = some (.int .i64 x3) := box_cell i_w1 rfl
      have y4 : w1.cell? ⟨w.heap.size, 4, none⟩ = some (.int .i64 x4) := box_cell i_w1 rfl
      have y5 : w1.cell? ⟨w.heap.size, 5, none⟩ = some (.bool x5) := box_cell i_w1 rfl
      clear i_w1
      go_wp2_with fail
      refine (qp.out _).mono ?_
      rintro e w2 ⟨rfl, hb2⟩
      go_wp2
      go_ret
      exact ⟨by rw [E.out]; rfl, b1.trans (hb2.mono b1.size)⟩
    have EA := atA_yes HG.out hp
    obtain ⟨W, H, rfl, rfl, g1, g2, g3, g4, g5, hlen, hcl, _⟩ := gok_parts HG.out
    obtain ⟨p1, p2, p3, p4⟩ := placeB_iff.1 hp
    obtain ⟨X, rfl⟩ : ∃ X : Nat, x = X := ⟨x.toNat, by omega⟩
    obtain ⟨Y, rfl⟩ : ∃ Y : Nat, y = Y := ⟨y.toNat, by omega⟩
    obtain ⟨hl, hrd, hc, _⟩ := reads_ints HR.out
    have hpl := place_lt (W := W) (H := H) (X := X) (Y := Y) (by omega) (by omega)
    obtain ⟨p, hp0⟩ : ∃ p, p = Y * W := ⟨_, rfl⟩
    have hpx : p + X < n := by rw [hp0, ← hl, hlen]; exact hpl
    have hpw : p + W ≤ n := by
      have h9 : (Y + 1) * W ≤ H * W := Nat.mul_le_mul_right _ (by omega)
      rw [Nat.add_mul, Nat.one_mul] at h9
      rw [hp0, ← hl, hlen, Nat.mul_comm W H]; exact h9
    have E : Hid (atA ((W : Int), (H : Int), zs, x3, x4, x5, ()) (X : Int) (Y : Int) = at0 zs (p + X)) := by
      show _ = _
      rw [EA]
      show at0 zs ((Y : Int) * (W : Int) + (X : Int)).toNat = _
      congr 1
      have : (Y : Int) * (W : Int) = (p : Int) := by rw [hp0]; simp
      omega
    have hpy : (Y : Int) * (W : Int) = (p : Int) := by rw [hp0]; simp
    have hne : zs ≠ [] := by
      intro h'; subst h'
      have h8 : 0 = n := hl
      omega
    obtain ⟨b, off, rfl, hb, hcc⟩ := hrd.resolve_left hne
    obtain ⟨r, hr⟩ : ∃ r, r = at0 zs (p + X) := ⟨_, rfl⟩
    rw [← hr] at E
    have hcell : w.cell? ⟨b, off + (p + X), none⟩ = some (.int .i64 r) := by rw [hr]; exact hcc (p + X) (by rw [hl]; exact hpx)
    have qp : Hid (∀ w', Calls Try.prog 33 #[.agg #[.int .i64 W, .int .i64 H, .slice (some ⟨b, off, none⟩) n c, .int .i64 x3, .int .i64 x4, .bool x5], .int .i64 X, .int .i64 Y] w' fun e w'' => e = .returned (.bool true) ∧ Below w'.heap.size w' w'') := fun w' => by rw [← hp]; exact place_any W H x3 x4 _ n c x5 X Y w'
    have qr : Hid (∀ w', Calls Try.prog 34 #[.agg #[.int .i64 W, .int .i64 H, .slice (some ⟨b, off, none⟩) n c, .int .i64 x3, .int .i64 x4, .bool x5], .int .i64 Y] w' fun e w'' => e = .returned (.slice (some ⟨b, off + p, none⟩) W (c - p)) ∧ Below w'.heap.size w' w'') := fun w' => rowOf_any W Y b off n c p H x3 x4 x5 w' hp0 (by omega) (by omega) (by omega) hpw hc (by unfold maxLen; omega)
    clear EA hp0 hlen hcl hl hrd hcc hr hpl hp hne HG HR
    go_enter Try.func18, Try.ntmps18
    go_wp2_with fail
    rw [← HW0.out]
    refine (qg.out _ HB0.out).mono ?_
    rintro e w1 ⟨rfl, hb1⟩
    have b1 := HB0.out.trans (hb1.mono HB0.out.size)
    clear y0 y1 y2 y3 y4 y5
    have i_w1 := HBX.out w1 hb1
    have y0 : w1.cell? ⟨w.heap.size, 0, none⟩ = some (.int .i64 W) := box_cell i_w1 rfl
    have y1 : w1.cell? ⟨w.heap.size, 1, none⟩ = some (.int .i64 H) := box_cell i_w1 rfl
    have y2 : w1.cell? ⟨w.heap.size, 2, none⟩ = some (.slice (some ⟨b, off, none⟩) n c) := box_cell i_w1 rfl
    have y3 : w1.cell? ⟨w.heap.size, 3, none⟩ = some (.int .i64 x3) := box_cell i_w1 rfl
    have y4 : w1.cell? ⟨w.heap.size, 4, none⟩ = some (.int .i64 x4) := box_cell i_w1 rfl
    have y5 : w1.cell? ⟨w.heap.size, 5, none⟩ = some (.bool x5) := box_cell i_w1 rfl
    clear i_w1
    have b10 := hb1
    clear hb1
    go_wp2_with fail
    refine (qp.out _).mono ?_
    rintro e w2 ⟨rfl, hb2⟩
    have b20 := b10.trans (hb2.mono b10.size)
    clear hb2 y0 y1 y2 y3 y4 y5
    have i_w2 := HBX.out w2 b20
    have y0 : w2.cell? ⟨w.heap.size, 0, none⟩ = some (.int .i64 W) := box_cell i_w2 rfl
    have y1 : w2.cell? ⟨w.heap.size, 1, none⟩ = some (.int .i64 H) := box_cell i_w2 rfl
    have y2 : w2.cell? ⟨w.heap.size, 2, none⟩ = some (.slice (some ⟨b, off, none⟩) n c) := box_cell i_w2 rfl
    have y3 : w2.cell? ⟨w.heap.size, 3, none⟩ = some (.int .i64 x3) := box_cell i_w2 rfl
    have y4 : w2.cell? ⟨w.heap.size, 4, none⟩ = some (.int .i64 x4) := box_cell i_w2 rfl
    have y5 : w2.cell? ⟨w.heap.size, 5, none⟩ = some (.bool x5) := box_cell i_w2 rfl
    clear i_w2
    go_wp2_with fail
    refine (qr.out _).mono ?_
    rintro e w3 ⟨rfl, hb3⟩
    have b30 := b20.trans (hb3.mono b20.size)
    have b3 := HB0.out.trans (b30.mono HB0.out.size)
    have hc3 : w3.cell? ⟨b, off + p + X, none⟩ = some (.int .i64 r) := by rw [Nat.add_assoc]; exact (b3.cell (p := ⟨b, off + (p + X), none⟩) hb).trans hcell
    clear hb3 y0 y1 y2 y3 y4 y5
    go_wp2
    go_ret
    exact ⟨by rw [E.out]; rfl, b3⟩

set_option maxRecDepth 100000 in
set_option maxHeartbeats 4000000 in
theorem specAt_any (x0 x1 x3 x4 : Int) (a : Option Addr) (n c : Nat) (x5 : Bool) (zs : List Int) (x y : Int) (w : World) (hr : Reads (.sl .int) w [.slice a n c] zs) :
    Calls Try.prog 17 #[.agg #[.int .i64 x0, .int .i64 x1, .slice a n c, .int .i64 x3, .int .i64 x4, .bool x5], .int .i64 x, .int .i64 y] w fun e w' => e = .returned (.int .i64 (atA (x0, x1, zs, x3, x4, x5, ()) x y)) ∧ Below w.heap.size w w' := by
  have hm := (reads_ints hr).2.2.2
  unfold maxLen at hm
  have HR : Hid (Reads (.sl .int) w [.slice a n c] zs) := hr
  obtain ⟨W0, hW0⟩ : ∃ W0, W0 = w.alloc (.cells #[.int .i64 x0, .int .i64 x1, .slice a n c, .int .i64 x3, .int .i64 x4, .bool x5] 27) := ⟨_, rfl⟩
  have bW0 : Below w.heap.size w W0 := by rw [hW0]; exact (Below.refl _ _).alloc (Nat.le_refl _) _
  have hbox : W0.heap[w.heap.size]? = some (.cells #[.int .i64 x0, .int .i64 x1, .slice a n c, .int .i64 x3, .int .i64 x4, .bool x5] 27 (0, 0)) := by rw [hW0]; exact heap_alloc_new w _
  have zW0 : W0.heap.size = w.heap.size + 1 := by rw [hW0]; simp
  have HW0 : Hid (W0 = _) := hW0
  have HBX : Hid (∀ w', Below W0.heap.size W0 w' → w'.heap[w.heap.size]? = some (.cells #[.int .i64 x0, .int .i64 x1, .slice a n c, .int .i64 x3, .int .i64 x4, .bool x5] 27 (0, 0))) := fun w' h' => (h'.block _ (by omega)).trans hbox
  have HB0 : Hid (Below w.heap.size w W0) := bW0
  clear hW0 hbox
  have qg : Hid (∀ w', Below w.heap.size w w' → Calls Try.prog 9 #[.agg #[.int .i64 x0, .int .i64 x1, .slice a n c, .int .i64 x3, .int .i64 x4, .bool x5]] w' fun e w'' => e = .returned (.bool (gokB (x0, x1, zs, x3, x4, x5, ()))) ∧ Below w'.heap.size w' w'') := fun w' h' => specGok_any x0 x1 x3 x4 a n c x5 zs w' (hr.later h')
  clear hr
  have hb00 : Below W0.heap.size W0 W0 := Below.refl _ _
  have i_W0 := HBX.out W0 hb00
  have y0 : W0.cell? ⟨w.heap.size, 0, none⟩ = some (.int .i64 x0) := box_cell i_W0 rfl
  have y1 : W0.cell? ⟨w.heap.size, 1, none⟩ = some (.int .i64 x1) := box_cell i_W0 rfl
  have y2 : W0.cell? ⟨w.heap.size, 2, none⟩ = some (.slice a n c) := box_cell i_W0 rfl
  have y3 : W0.cell? ⟨w.heap.size, 3, none⟩ = some (.int .i64 x3) := box_cell i_W0 rfl
  have y4 : W0.cell? ⟨w.heap.size, 4, none⟩ = some (.int .i64 x4) := box_cell i_W0 rfl
  have y5 : W0.cell? ⟨w.heap.size, 5, none⟩ = some (.bool x5) := box_cell i_W0 rfl
  clear i_W0
  by_cases hg : gokB (x0, x1, zs, x3, x4, x5, ()) = true
  rotate_left
  · have hg' : gokB (x0, x1, zs, x3, x4, x5, ()) = false := by simpa using hg
    have E : Hid (atA (x0, x1, zs, x3, x4, x5, ()) x y = 0) := atA_no (by rw [hg']; rfl)
    rw [hg'] at qg
    clear hg hg'
    go_enter Try.func17, Try.ntmps17
    go_wp2_with fail
    rw [← HW0.out]
    refine (qg.out _ HB0.out).mono ?_
    rintro e w1 ⟨rfl, hb1⟩
    have b1 := HB0.out.trans (hb1.mono HB0.out.size)
    clear y0 y1 y2 y3 y4 y5
    go_wp2
    go_ret
    exact ⟨by rw [E.out]; rfl, b1⟩
  · have HG : Hid (gokB (x0, x1, zs, x3, x4, x5, ()) = true) := hg
    rw [hg] at qg
    clear hg
    have hc : x < 0 ∨ (0 ≤ x ∧ x0 ≤ x) ∨ (0 ≤ x ∧ x < x0 ∧ y < 0) ∨ (0 ≤ x ∧ x < x0 ∧ 0 ≤ y ∧ x1 ≤ y) ∨ (0 ≤ x ∧ x < x0 ∧ 0 ≤ y ∧ y < x1) := by omega
    rcases hc with h | ⟨h1, h⟩ | ⟨h1, h2, h⟩ | ⟨h1, h2, h3, h⟩ | ⟨h1, h2, h3, h⟩
    · have hp' : placeB x0 x1 x y = false := by cases hs : placeB x0 x1 x y with | false => rfl | true => exact absurd (placeB_iff.1 hs).1 (by omega)
      have E : Hid (atA (x0, x1, zs, x3, x4, x5, ()) x y = 0) := atA_no (by show (_ && placeB x0 x1 x y) = false; rw [hp']; simp)
      have t0 : decide (x < 0) = true := decide_eq_true (by omega)
      clear hp'
      go_enter Try.func17, Try.ntmps17
      go_wp2_with fail
      rw [← HW0.out]
      refine (qg.out _ HB0.out).mono ?_
      rintro e w1 ⟨rfl, hb1⟩
      have b1 := HB0.out.trans (hb1.mono HB0.out.size)
      clear y0 y1 y2 y3 y4 y5
      have i_w1 := HBX.out w1 hb1
      have y0 : w1.cell? ⟨w.heap.size, 0, none⟩ = some (.int .i64 x0) := box_cell i_w1 rfl
      have y1 : w1.cell? ⟨w.heap.size, 1, none⟩ = some (.int .i64 x1) := box_cell i_w1 rfl
      clear i_w1
      go_wp2
      go_ret
      exact ⟨by rw [E.out]; rfl, b1⟩
    · have hp' : placeB x0 x1 x y = false := by cases hs : placeB x0 x1 x y with | false => rfl | true => exact absurd (placeB_iff.1 hs).2.1 (by omega)
      have E : Hid (atA (x0, x1, zs, x3, x4, x5, ()) x y = 0) := atA_no (by show (_ && placeB x0 x1 x y) = false; rw [hp']; simp)
      have t0 : decide (x < 0) = false := decide_eq_false (by omega)
      have t1 : decide (x0 ≤ x) = true := decide_eq_true (by omega)
      clear hp'
      go_enter Try.func17, Try.ntmps17
      go_wp2_with fail
      rw [← HW0.out]
      refine (qg.out _ HB0.out).mono ?_
      rintro e w1 ⟨rfl, hb1⟩
      have b1 := HB0.out.trans (hb1.mono HB0.out.size)
      clear y0 y1 y2 y3 y4 y5
      have i_w1 := HBX.out w1 hb1
      have y0 : w1.cell? ⟨w.heap.size, 0, none⟩ = some (.int .i64 x0) := box_cell i_w1 rfl
      have y1 : w1.cell? ⟨w.heap.size, 1, none⟩ = some (.int .i64 x1) := box_cell i_w1 rfl
      clear i_w1
      go_wp2
      go_ret
      exact ⟨by rw [E.out]; rfl, b1⟩
    · have hp' : placeB x0 x1 x y = false := by cases hs : placeB x0 x1 x y with | false => rfl | true => exact absurd (placeB_iff.1 hs).2.2.1 (by omega)
      have E : Hid (atA (x0, x1, zs, x3, x4, x5, ()) x y = 0) := atA_no (by show (_ && placeB x0 x1 x y) = false; rw [hp']; simp)
      have t0 : decide (x < 0) = false := decide_eq_false (by omega)
      have t1 : decide (x0 ≤ x) = false := decide_eq_false (by omega)
      have t2 : decide (y < 0) = true := decide_eq_true (by omega)
      clear hp'
      go_enter Try.func17, Try.ntmps17
      go_wp2_with fail
      rw [← HW0.out]
      refine (qg.out _ HB0.out).mono ?_
      rintro e w1 ⟨rfl, hb1⟩
      have b1 := HB0.out.trans (hb1.mono HB0.out.size)
      clear y0 y1 y2 y3 y4 y5
      have i_w1 := HBX.out w1 hb1
      have y0 : w1.cell? ⟨w.heap.size, 0, none⟩ = some (.int .i64 x0) := box_cell i_w1 rfl
      have y1 : w1.cell? ⟨w.heap.size, 1, none⟩ = some (.int .i64 x1) := box_cell i_w1 rfl
      clear i_w1
      go_wp2
      go_ret
      exact ⟨by rw [E.out]; rfl, b1⟩
    · have hp' : placeB x0 x1 x y = false := by cases hs : placeB x0 x1 x y with | false => rfl | true => exact absurd (placeB_iff.1 hs).2.2.2 (by omega)
      have E : Hid (atA (x0, x1, zs, x3, x4, x5, ()) x y = 0) := atA_no (by show (_ && placeB x0 x1 x y) = false; rw [hp']; simp)
      have t0 : decide (x < 0) = false := decide_eq_false (by omega)
      have t1 : decide (x0 ≤ x) = false := decide_eq_false (by omega)
      have t2 : decide (y < 0) = false := decide_eq_false (by omega)
      have t3 : decide (x1 ≤ y) = true := decide_eq_true (by omega)
      clear hp'
      go_enter Try.func17, Try.ntmps17
      go_wp2_with fail
      rw [← HW0.out]
      refine (qg.out _ HB0.out).mono ?_
      rintro e w1 ⟨rfl, hb1⟩
      have b1 := HB0.out.trans (hb1.mono HB0.out.size)
      clear y0 y1 y2 y3 y4 y5
      have i_w1 := HBX.out w1 hb1
      have y0 : w1.cell? ⟨w.heap.size, 0, none⟩ = some (.int .i64 x0) := box_cell i_w1 rfl
      have y1 : w1.cell? ⟨w.heap.size, 1, none⟩ = some (.int .i64 x1) := box_cell i_w1 rfl
      clear i_w1
      go_wp2
      go_ret
      exact ⟨by rw [E.out]; rfl, b1⟩
    · have hp : placeB x0 x1 x y = true := placeB_iff.2 ⟨h1, h2, h3, h⟩
      have t0 : decide (x < 0) = false := decide_eq_false (by omega)
      have t1 : decide (x0 ≤ x) = false := decide_eq_false (by omega)
      have t2 : decide (y < 0) = false := decide_eq_false (by omega)
      have t3 : decide (x1 ≤ y) = false := decide_eq_false (by omega)
      have EA := atA_yes HG.out hp
      obtain ⟨W, H, rfl, rfl, g1, g2, g3, g4, g5, hlen, hcl, _⟩ := gok_parts HG.out
      obtain ⟨p1, p2, p3, p4⟩ := placeB_iff.1 hp
      obtain ⟨X, rfl⟩ : ∃ X : Nat, x = X := ⟨x.toNat, by omega⟩
      obtain ⟨Y, rfl⟩ : ∃ Y : Nat, y = Y := ⟨y.toNat, by omega⟩
      obtain ⟨hl, hrd, hc, _⟩ := reads_ints HR.out
      have hpl := place_lt (W := W) (H := H) (X := X) (Y := Y) (by omega) (by omega)
      obtain ⟨p, hp0⟩ : ∃ p, p = Y * W := ⟨_, rfl⟩
      have hpx : p + X < n := by rw [hp0, ← hl, hlen]; exact hpl
      have hpw : p + W ≤ n := by
        have h9 : (Y + 1) * W ≤ H * W := Nat.mul_le_mul_right _ (by omega)
        rw [Nat.add_mul, Nat.one_mul] at h9
        rw [hp0, ← hl, hlen, Nat.mul_comm W H]; exact h9
      have E : Hid (atA ((W : Int), (H : Int), zs, x3, x4, x5, ()) (X : Int) (Y : Int) = at0 zs (p + X)) := by
        show _ = _
        rw [EA]
        show at0 zs ((Y : Int) * (W : Int) + (X : Int)).toNat = _
        congr 1
        have : (Y : Int) * (W : Int) = (p : Int) := by rw [hp0]; simp
        omega
      have hpy : (Y : Int) * (W : Int) = (p : Int) := by rw [hp0]; simp
      have hne : zs ≠ [] := by
        intro h'; subst h'
        have h8 : 0 = n := hl
        omega
      obtain ⟨b, off, rfl, hb, hcc⟩ := hrd.resolve_left hne
      obtain ⟨r, hr⟩ : ∃ r, r = at0 zs (p + X) := ⟨_, rfl⟩
      rw [← hr] at E
      have hcell : w.cell? ⟨b, off + (p + X), none⟩ = some (.int .i64 r) := by rw [hr]; exact hcc (p + X) (by rw [hl]; exact hpx)
      clear EA hp0 hlen hcl hl hrd hcc hr hpl hp hne HG HR
      go_enter Try.func17, Try.ntmps17
      go_wp2_with fail
      rw [← HW0.out]
      refine (qg.out _ HB0.out).mono ?_
      rintro e w1 ⟨rfl, hb1⟩
      have b1 := HB0.out.trans (hb1.mono HB0.out.size)
      clear y0 y1 y2 y3 y4 y5
      have i_w1 := HBX.out w1 hb1
      have y0 : w1.cell? ⟨w.heap.size, 0, none⟩ = some (.int .i64 W) := box_cell i_w1 rfl
      have y1 : w1.cell? ⟨w.heap.size, 1, none⟩ = some (.int .i64 H) := box_cell i_w1 rfl
      have y2 : w1.cell? ⟨w.heap.size, 2, none⟩ = some (.slice (some ⟨b, off, none⟩) n c) := box_cell i_w1 rfl
      clear i_w1
      have hc1 : w1.cell? ⟨b, off + (p + X), none⟩ = some (.int .i64 r) := (b1.cell (p := ⟨b, off + (p + X), none⟩) hb).trans hcell
      have wp : IntKind.i64.wrap (p : Int) = (p : Int) := wrap_i64_in _ (by omega) (by omega)
      have wx : IntKind.i64.wrap ((p : Int) + (X : Int)) = ((p + X : Nat) : Int) := by rw [wrap_i64_in _ (by omega) (by omega)]; simp
      go_wp2
      go_ret
      exact ⟨by rw [E.out]; rfl, b1⟩

theorem implAt_ok (c : List Value) (d : shGrid.D) (x y : Int) (w : World) (h : Reads shGrid w c d) :
    Calls Try.prog 18 #[.agg c.toArray, .int .i64 x, .int .i64 y] w fun e w' => e = .returned (.int .i64 (atA d x y)) ∧ Below w.heap.size w w' := by
  obtain ⟨a, n, cc, rfl, hr⟩ := open_Grid h
  exact implAt_any _ _ _ _ a n cc _ _ x y w hr
theorem specAt_ok (c : List Value) (d : shGrid.D) (x y : Int) (w : World) (h : Reads shGrid w c d) :
    Calls Try.prog 17 #[.agg c.toArray, .int .i64 x, .int .i64 y] w fun e w' => e = .returned (.int .i64 (atA d x y)) ∧ Below w.heap.size w w' := by
  obtain ⟨a, n, cc, rfl, hr⟩ := open_Grid h
  exact specAt_any _ _ _ _ a n cc _ _ x y w hr

end Go.Proofs.Ytpceaabbcogioaa
