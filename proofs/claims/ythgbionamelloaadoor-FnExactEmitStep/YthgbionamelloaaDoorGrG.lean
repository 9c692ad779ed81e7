/-
  The program's looks at a whole grid: rowOf, rowsOk, placeOk, cursorOk, GridOk.
-/
import Derived.Test.YthgbionamelloaaDoorGrI
import Derived.Test.YthgbionamelloaaDoorTyGrid
namespace Go.Proofs.YthgbionamelloaaDoor
open Go.RowKit
set_option linter.unusedVariables false

set_option maxHeartbeats 1000000 in
theorem place_any (x0 x1 x3 x4 : Int) (a : Option Addr) (n c : Nat) (x5 : Bool) (x y : Int) (w : World) :
    Calls Tryd.prog 20 #[.agg #[.int .i64 x0, .int .i64 x1, .slice a n c, .int .i64 x3, .int .i64 x4, .bool x5], .int .i64 x, .int .i64 y] w fun e w' => e = .returned (.bool (placeB x0 x1 x y)) ∧ Below w.heap.size w w' := by
  have hc : x < 0 ∨ (0 ≤ x ∧ x0 ≤ x) ∨ (0 ≤ x ∧ x < x0 ∧ y < 0) ∨ (0 ≤ x ∧ x < x0 ∧ 0 ≤ y ∧ x1 ≤ y) ∨ (0 ≤ x ∧ x < x0 ∧ 0 ≤ y ∧ y < x1) := by omega
  rcases hc with h | ⟨h1, h⟩ | ⟨h1, h2, h⟩ | ⟨h1, h2, h3, h⟩ | ⟨h1, h2, h3, h⟩
  · have E : placeB x0 x1 x y = false := by cases hs : placeB x0 x1 x y with | false => rfl | true => exact absurd (placeB_iff.1 hs).1 (by omega)
    rw [E]
    have d1 : decide (0 ≤ x) = false := decide_eq_false (by omega)
    go_enter Tryd.func20, Tryd.ntmps20
    go_wp2
    go_ret
    exact ⟨rfl, (Below.refl _ _).alloc (Nat.le_refl _) _⟩
  · have E : placeB x0 x1 x y = false := by cases hs : placeB x0 x1 x y with | false => rfl | true => exact absurd (placeB_iff.1 hs).2.1 (by omega)
    rw [E]
    have d1 : decide (0 ≤ x) = true := decide_eq_true h1
    have d2 : decide (x < x0) = false := decide_eq_false (by omega)
    go_enter Tryd.func20, Tryd.ntmps20
    go_wp2
    go_ret
    exact ⟨rfl, (Below.refl _ _).alloc (Nat.le_refl _) _⟩
  · have E : placeB x0 x1 x y = false := by cases hs : placeB x0 x1 x y with | false => rfl | true => exact absurd (placeB_iff.1 hs).2.2.1 (by omega)
    rw [E]
    have d1 : decide (0 ≤ x) = true := decide_eq_true h1
    have d2 : decide (x < x0) = true := decide_eq_true h2
    have d3 : decide (0 ≤ y) = false := decide_eq_false (by omega)
    go_enter Tryd.func20, Tryd.ntmps20
    go_wp2
    go_ret
    exact ⟨rfl, (Below.refl _ _).alloc (Nat.le_refl _) _⟩
  · have E : placeB x0 x1 x y = false := by cases hs : placeB x0 x1 x y with | false => rfl | true => exact absurd (placeB_iff.1 hs).2.2.2 (by omega)
    rw [E]
    have d1 : decide (0 ≤ x) = true := decide_eq_true h1
    have d2 : decide (x < x0) = true := decide_eq_true h2
    have d3 : decide (0 ≤ y) = true := decide_eq_true h3
    have d4 : decide (y < x1) = false := decide_eq_false (by omega)
    go_enter Tryd.func20, Tryd.ntmps20
    go_wp2
    go_ret
    exact ⟨rfl, (Below.refl _ _).alloc (Nat.le_refl _) _⟩
  · have E : placeB x0 x1 x y = true := placeB_iff.2 ⟨h1, h2, h3, h⟩
    rw [E]
    have d1 : decide (0 ≤ x) = true := decide_eq_true h1
    have d2 : decide (x < x0) = true := decide_eq_true h2
    have d3 : decide (0 ≤ y) = true := decide_eq_true h3
    have d4 : decide (y < x1) = true := decide_eq_true h
    go_enter Tryd.func20, Tryd.ntmps20
    go_wp2
    go_ret
    exact ⟨rfl, (Below.refl _ _).alloc (Nat.le_refl _) _⟩

set_option maxHeartbeats 1000000 in
theorem curs_any (x0 x1 x3 x4 : Int) (a : Option Addr) (n c : Nat) (x5 : Bool) (w : World) (h0 : 2 ≤ x0) (h1 : x0 ≤ 200) :
    Calls Tryd.prog 32 #[.agg #[.int .i64 x0, .int .i64 x1, .slice a n c, .int .i64 x3, .int .i64 x4, .bool x5]] w fun e w' => e = .returned (.bool (cursB x0 x1 x3 x4 x5)) ∧ Below w.heap.size w w' := by
  obtain ⟨W0, hW0⟩ : ∃ W0, W0 = w.alloc (.cells #[.int .i64 x0, .int .i64 x1, .slice a n c, .int .i64 x3, .int .i64 x4, .bool x5] 29) := ⟨_, rfl⟩
  have bW0 : Below w.heap.size w W0 := by rw [hW0]; exact (Below.refl _ _).alloc (Nat.le_refl _) _
  have hbox : W0.heap[w.heap.size]? = some (.cells #[.int .i64 x0, .int .i64 x1, .slice a n c, .int .i64 x3, .int .i64 x4, .bool x5] 29 (0, 0)) := by rw [hW0]; exact heap_alloc_new w _
  have zW0 : W0.heap.size = w.heap.size + 1 := by rw [hW0]; simp
  have HW0 : Hid (W0 = _) := hW0
  have HBX : Hid _ := hbox
  have qp : Hid (∀ w', Calls Tryd.prog 20 #[.agg #[.int .i64 x0, .int .i64 x1, .slice a n c, .int .i64 x3, .int .i64 x4, .bool x5], .int .i64 x3, .int .i64 x4] w' fun e w'' => e = .returned (.bool (placeB x0 x1 x3 x4)) ∧ Below w'.heap.size w' w'') := fun w' => place_any x0 x1 x3 x4 a n c x5 x3 x4 w'
  clear hW0 hbox
  have w1' : IntKind.i64.wrap (x0 - 1) = x0 - 1 := wrap_i64_in _ (by omega) (by omega)
  have hp : placeB x0 x1 x3 x4 = false ∨ (placeB x0 x1 x3 x4 = true ∧ x5 = false) ∨ (placeB x0 x1 x3 x4 = true ∧ x5 = true ∧ x3 = x0 - 1) ∨ (placeB x0 x1 x3 x4 = true ∧ x5 = true ∧ x3 ≠ x0 - 1) := by
    cases placeB x0 x1 x3 x4 <;> cases x5 <;> simp; omega
  rcases hp with hp | ⟨hp, h5⟩ | ⟨hp, h5, h6⟩ | ⟨hp, h5, h6⟩
  · have E : Hid (cursB x0 x1 x3 x4 x5 = false) := by show _ = _; unfold cursB; rw [hp]; rfl
    rw [hp] at qp
    go_enter Tryd.func32, Tryd.ntmps32
    go_wp2_with fail
    rw [← HW0.out]
    refine (qp.out _).mono ?_
    rintro e w1 ⟨rfl, hb1⟩
    have b1 := bW0.trans (hb1.mono bW0.size)
    go_wp2
    go_ret
    exact ⟨by rw [E.out]; rfl, b1⟩
  · have E : Hid (cursB x0 x1 x3 x4 x5 = true) := by show _ = _; unfold cursB; rw [hp, h5]; rfl
    rw [hp] at qp
    subst h5
    go_enter Tryd.func32, Tryd.ntmps32
    go_wp2_with fail
    rw [← HW0.out]
    refine (qp.out _).mono ?_
    rintro e w1 ⟨rfl, hb1⟩
    have b1 := bW0.trans (hb1.mono bW0.size)
    have i1 : w1.heap[w.heap.size]? = _ := (hb1.block _ (by rw [zW0]; omega)).trans HBX.out
    have y5 : w1.cell? ⟨w.heap.size, 5, none⟩ = some (.bool false) := box_cell i1 rfl
    go_wp2
    go_ret
    exact ⟨by rw [E.out]; rfl, b1⟩
  · have E : Hid (cursB x0 x1 x3 x4 x5 = true) := by show _ = _; unfold cursB; rw [hp, h5, decide_eq_true h6]; rfl
    rw [hp] at qp
    subst h5
    have d1 : (x3 == x0 - 1) = true := by simp [h6]
    clear h6
    go_enter Tryd.func32, Tryd.ntmps32
    go_wp2_with fail
    rw [← HW0.out]
    refine (qp.out _).mono ?_
    rintro e w1 ⟨rfl, hb1⟩
    have b1 := bW0.trans (hb1.mono bW0.size)
    have i1 : w1.heap[w.heap.size]? = _ := (hb1.block _ (by rw [zW0]; omega)).trans HBX.out
    have y0 : w1.cell? ⟨w.heap.size, 0, none⟩ = some (.int .i64 x0) := box_cell i1 rfl
    have y3 : w1.cell? ⟨w.heap.size, 3, none⟩ = some (.int .i64 x3) := box_cell i1 rfl
    have y5 : w1.cell? ⟨w.heap.size, 5, none⟩ = some (.bool true) := box_cell i1 rfl
    clear i1 hb1
    go_wp2
    go_ret
    exact ⟨by rw [E.out]; rfl, b1⟩
  · have E : Hid (cursB x0 x1 x3 x4 x5 = false) := by show _ = _; unfold cursB; rw [hp, h5, decide_eq_false h6]; rfl
    rw [hp] at qp
    subst h5
    have d1 : (x3 == x0 - 1) = false := by simp [h6]
    clear h6
    go_enter Tryd.func32, Tryd.ntmps32
    go_wp2_with fail
    rw [← HW0.out]
    refine (qp.out _).mono ?_
    rintro e w1 ⟨rfl, hb1⟩
    have b1 := bW0.trans (hb1.mono bW0.size)
    have i1 : w1.heap[w.heap.size]? = _ := (hb1.block _ (by rw [zW0]; omega)).trans HBX.out
    have y0 : w1.cell? ⟨w.heap.size, 0, none⟩ = some (.int .i64 x0) := box_cell i1 rfl
    have y3 : w1.cell? ⟨w.heap.size, 3, none⟩ = some (.int .i64 x3) := box_cell i1 rfl
    have y5 : w1.cell? ⟨w.heap.size, 5, none⟩ = some (.bool true) := box_cell i1 rfl
    clear i1 hb1
    go_wp2
    go_ret
    exact ⟨by rw [E.out]; rfl, b1⟩

set_option maxHeartbeats 1000000 in
theorem rowOf_any (W y b off n c p : Nat) (x1 x3 x4 : Int) (x5 : Bool) (w : World) (hp : p = y * W) (hy : y ≤ 200) (hW : W ≤ 200) (hW1 : 1 ≤ W) (hn : p + W ≤ n) (hc : n ≤ c) (hm : c ≤ maxLen) :
    Calls Tryd.prog 38 #[.agg #[.int .i64 W, .int .i64 x1, .slice (some ⟨b, off, none⟩) n c, .int .i64 x3, .int .i64 x4, .bool x5], .int .i64 y] w fun e w' => e = .returned (.slice (some ⟨b, off + p, none⟩) W (c - p)) ∧ Below w.heap.size w w' := by
  unfold maxLen at hm
  have e1 : (y : Int) * (W : Int) = (p : Int) := by rw [hp]; simp
  have e2 : ((y : Int) + 1) * (W : Int) = ((p + W : Nat) : Int) := by rw [Int.add_mul, e1]; simp
  have hpb : p ≤ 40000 := by rw [hp]; exact Nat.mul_le_mul hy hW
  clear hp
  have w1' : IntKind.i64.wrap ((p : Nat) : Int) = (p : Int) := wrap_i64_in _ (by omega) (by omega)
  have w2' : IntKind.i64.wrap ((p + W : Nat) : Int) = ((p + W : Nat) : Int) := wrap_i64_in _ (by omega) (by omega)
  go_enter Tryd.func38, Tryd.ntmps38
  have hcp : ¬ c = p := by omega
  have hsp : p + W - p = W := by omega
  go_wp2
  go_ret
  refine ⟨?_, (Below.refl _ _).alloc (Nat.le_refl _) _⟩
  simp

/-- A piece of a row that reads. -/
theorem rdI_sub {w : World} {b off n p m : Nat} {zs : List Int} (h : RdI w (some ⟨b, off, none⟩) zs) (hm : p + m ≤ zs.length) : RdI w (some ⟨b, off + p, none⟩) ((zs.drop p).take m) := by
  rcases h with h | ⟨b', off', he, hb, hc⟩
  · left; rw [h]; simp
  · obtain ⟨rfl, rfl⟩ : b = b' ∧ off = off' := by simpa using he
    right
    refine ⟨b, off + p, rfl, hb, fun i hi => ?_⟩
    have hi' : i < m := by simp at hi; omega
    have := hc (p + i) (by simp at hi; omega)
    rw [List.getElem?_take_of_lt hi', List.getElem?_drop, Nat.add_assoc]
    exact this

set_option maxHeartbeats 2000000 in
theorem rowsOk_any (W H b off c : Nat) (x3 x4 : Int) (x5 : Bool) (zs : List Int) (w : World) (hW1 : 1 ≤ W) (hW : W ≤ 200) (hH : H ≤ 200) (hl : zs.length = W * H) (hr : RdI w (some ⟨b, off, none⟩) zs) (hb : b < w.heap.size) (hc : W * H ≤ c) (hm : c ≤ maxLen) :
    Calls Tryd.prog 31 #[.agg #[.int .i64 W, .int .i64 H, .slice (some ⟨b, off, none⟩) (W * H : Nat) c, .int .i64 x3, .int .i64 x4, .bool x5]] w fun e w' => e = .returned (.bool (cellsB zs W (W * H))) ∧ Below w.heap.size w w' := by
  obtain ⟨n, hn⟩ : ∃ n, n = W * H := ⟨_, rfl⟩
  rw [← hn] at hl hc ⊢
  have HN : Hid (n = W * H ∧ zs.length = n ∧ c ≤ maxLen) := ⟨hn, hl, hm⟩
  obtain ⟨W0, hW0⟩ : ∃ W0, W0 = w.alloc (.cells #[.int .i64 W, .int .i64 H, .slice (some ⟨b, off, none⟩) n c, .int .i64 x3, .int .i64 x4, .bool x5] 29) := ⟨_, rfl⟩
  have bW0 : Below w.heap.size w W0 := by rw [hW0]; exact (Below.refl _ _).alloc (Nat.le_refl _) _
  have hbox : W0.heap[w.heap.size]? = some (.cells #[.int .i64 W, .int .i64 H, .slice (some ⟨b, off, none⟩) n c, .int .i64 x3, .int .i64 x4, .bool x5] 29 (0, 0)) := by rw [hW0]; exact heap_alloc_new w _
  have zW0 : W0.heap.size = w.heap.size + 1 := by rw [hW0]; simp
  have HW0 : Hid (W0 = _) := hW0
  have HBX : Hid (∀ w', Below W0.heap.size W0 w' → w'.heap[w.heap.size]? = _) := fun w' h' => (h'.block _ (by omega)).trans hbox
  have HR : Hid (∀ w', Below W0.heap.size W0 w' → RdI w' (some ⟨b, off, none⟩) zs) := fun w' h' => (hr.later bW0).later h'
  have HB0 : Hid (Below w.heap.size w W0) := bW0
  clear hW0 hbox hn hl hr hm hb
  go_enter Tryd.func31, Tryd.ntmps31
  go_wp2
  rw [← HW0.out]
  go_loopw [6] (fun i wr => ∃ y : Nat, y ≤ H ∧ i = .int .i64 y ∧ Hid (cellsB zs W (y * W) = true) ∧ Below W0.heap.size W0 wr) (fun i _ => H - (intOf i).toNat)
  case atStart => exact ⟨0, Nat.zero_le _, rfl, by show _ = _; rw [Nat.zero_mul]; rfl, Below.refl _ _⟩
  case round =>
    obtain ⟨y, hy, rfl, hB, hbel⟩ := hrel
    have i1 := HBX.out wr hbel
    have zr := hbel.size
    by_cases hlt : y < H
    · have hle : (y + 1) * W ≤ n := by rw [HN.out.1, Nat.mul_comm W H]; exact Nat.mul_le_mul_right _ hlt
      have hle' : y * W + W ≤ n := by rw [Nat.add_mul, Nat.one_mul] at hle; exact hle
      have qr : Hid (∀ w', Calls Tryd.prog 38 #[.agg #[.int .i64 W, .int .i64 H, .slice (some ⟨b, off, none⟩) n c, .int .i64 x3, .int .i64 x4, .bool x5], .int .i64 y] w' fun e w'' => e = .returned (.slice (some ⟨b, off + y * W, none⟩) W (c - y * W)) ∧ Below w'.heap.size w' w'') := fun w' => rowOf_any W y b off n c (y * W) H x3 x4 x5 w' rfl (by omega) hW hW1 hle' hc HN.out.2.2
      have qk : Hid (∀ w', Below W0.heap.size W0 w' → Calls Tryd.prog 37 #[.slice (some ⟨b, off + y * W, none⟩) W (c - y * W)] w' fun e w'' => e = .returned (.bool (cellsB (rowAt zs W y) W W)) ∧ w'' = w') := fun w' h' => rowOk_any _ W _ (rowAt zs W y) w' (rowAt_len (by rw [HN.out.2.1]; exact hle)) (rdI_sub (n := 0) (HR.out w' h') (by rw [HN.out.2.1]; exact hle')) hW
      have HX : Hid (cellsB zs W ((y + 1) * W) = cellsB (rowAt zs W y) W W) := by show _ = _; rw [cellsB_next, hB.out]; rfl
      have HLE : Hid ((y + 1) * W ≤ n) := hle
      obtain ⟨p, hp⟩ : ∃ p, p = y * W := ⟨_, rfl⟩
      have y0 : wr.cell? ⟨w.heap.size, 0, none⟩ = some (.int .i64 W) := box_cell i1 rfl
      have y1 : wr.cell? ⟨w.heap.size, 1, none⟩ = some (.int .i64 H) := box_cell i1 rfl
      have y2 : wr.cell? ⟨w.heap.size, 2, none⟩ = some (.slice (some ⟨b, off, none⟩) n c) := box_cell i1 rfl
      have y3 : wr.cell? ⟨w.heap.size, 3, none⟩ = some (.int .i64 x3) := box_cell i1 rfl
      have y4 : wr.cell? ⟨w.heap.size, 4, none⟩ = some (.int .i64 x4) := box_cell i1 rfl
      have y5 : wr.cell? ⟨w.heap.size, 5, none⟩ = some (.bool x5) := box_cell i1 rfl
      rw [← hp] at qr qk
      clear hle hle' hp i1
      by_cases hrow : cellsB (rowAt zs W y) W W = true
      · rw [hrow] at qk HX
        clear hrow
        go_wp2_with fail
        refine (qr.out _).mono ?_
        rintro e w1 ⟨rfl, hb1⟩
        have bel1 := hbel.trans (hb1.mono hbel.size)
        clear hb1
        go_wp2_with fail
        refine (qk.out _ bel1).mono ?_
        rintro e w2 ⟨rfl, rfl⟩
        go_wp2
        go_roundw
        case rel => exact ⟨y + 1, by omega, by go_num, HX, bel1⟩
        case measure => simp [intOf]; omega
      · have hrow' : cellsB (rowAt zs W y) W W = false := by simpa using hrow
        have E : Hid (cellsB zs W n = false) := by
          cases hs : cellsB zs W n with
          | false => rfl
          | true => have := cellsB_le hs HLE.out; rw [HX.out, hrow'] at this; cases this
        rw [hrow'] at qk
        clear hrow hrow'
        go_wp2_with fail
        refine (qr.out _).mono ?_
        rintro e w1 ⟨rfl, hb1⟩
        have bel1 := hbel.trans (hb1.mono hbel.size)
        clear hb1
        go_wp2_with fail
        refine (qk.out _ bel1).mono ?_
        rintro e w2 ⟨rfl, rfl⟩
        go_wp2
        go_ret
        exact ⟨by rw [E.out]; rfl, HB0.out.trans (bel1.mono HB0.out.size)⟩
    · have e : y = H := by omega
      subst e
      have E : Hid (cellsB zs W n = true) := by show _ = _; rw [HN.out.1, Nat.mul_comm]; exact hB.out
      go_wp2
      go_ret
      exact ⟨by rw [E.out]; rfl, HB0.out.trans (hbel.mono HB0.out.size)⟩

theorem gok_no1 {x0 x1 x3 x4 : Int} {x5 : Bool} {zs : List Int} (h : sidesB x0 x1 = false) : gokB (x0, x1, zs, x3, x4, x5, ()) = false := by
  unfold gokB; rw [h]; rfl
theorem gok_no2 {x0 x1 x3 x4 : Int} {x5 : Bool} {zs : List Int} (h : (zs.length : Int) ≠ x0 * x1) : gokB (x0, x1, zs, x3, x4, x5, ()) = false := by
  have : decide ((zs.length : Int) = x0 * x1) = false := decide_eq_false h
  unfold gokB; rw [this]; simp
theorem gok_three {W H : Nat} {x3 x4 : Int} {x5 : Bool} {zs : List Int} (h1 : sidesB W H = true) (h2 : zs.length = W * H) : gokB ((W : Int), (H : Int), zs, x3, x4, x5, ()) = (cellsB zs W (W * H) && cursB W H x3 x4 x5) := by
  have : decide ((zs.length : Int) = (W : Int) * (H : Int)) = true := decide_eq_true (by rw [h2]; simp)
  unfold gokB
  rw [h1, this, Int.toNat_natCast, h2]; rfl

set_option maxHeartbeats 2000000 in
theorem gok_any (x0 x1 x3 x4 : Int) (a : Option Addr) (n c : Nat) (x5 : Bool) (zs : List Int) (w : World) (hr : Reads (.sl .int) w [.slice a n c] zs) :
    Calls Tryd.prog 19 #[.agg #[.int .i64 x0, .int .i64 x1, .slice a n c, .int .i64 x3, .int .i64 x4, .bool x5]] w fun e w' => e = .returned (.bool (gokB (x0, x1, zs, x3, x4, x5, ()))) ∧ Below w.heap.size w w' := by
  obtain ⟨hl, hrd, hc, hm⟩ := reads_ints hr
  unfold maxLen at hm
  obtain ⟨W0, hW0⟩ : ∃ W0, W0 = w.alloc (.cells #[.int .i64 x0, .int .i64 x1, .slice a n c, .int .i64 x3, .int .i64 x4, .bool x5] 29) := ⟨_, rfl⟩
  have bW0 : Below w.heap.size w W0 := by rw [hW0]; exact (Below.refl _ _).alloc (Nat.le_refl _) _
  have hbox : W0.heap[w.heap.size]? = some (.cells #[.int .i64 x0, .int .i64 x1, .slice a n c, .int .i64 x3, .int .i64 x4, .bool x5] 29 (0, 0)) := by rw [hW0]; exact heap_alloc_new w _
  have zW0 : W0.heap.size = w.heap.size + 1 := by rw [hW0]; simp
  have HW0 : Hid (W0 = _) := hW0
  have HBX : Hid (W0.heap[w.heap.size]? = _) := hbox
  have HR : Hid (RdI w a zs ∧ zs.length = n) := ⟨hrd, hl⟩
  have qs : Hid (∀ w', Calls Tryd.prog 30 #[.int .i64 x0, .int .i64 x1] w' fun e w'' => e = .returned (.bool (sidesB x0 x1)) ∧ w'' = w') := fun w' => sides_any x0 x1 w'
  clear hW0 hbox hr hrd hl
  by_cases hs : sidesB x0 x1 = true
  rotate_left
  · have hs' : sidesB x0 x1 = false := by simpa using hs
    have E : Hid (gokB (x0, x1, zs, x3, x4, x5, ()) = false) := gok_no1 hs'
    rw [hs'] at qs
    clear hs hs'
    go_enter Tryd.func19, Tryd.ntmps19
    go_wp2_with fail
    rw [← HW0.out]
    refine (qs.out _).mono ?_
    rintro e w1 ⟨rfl, rfl⟩
    go_wp2
    go_ret
    exact ⟨by rw [E.out]; rfl, bW0⟩
  · obtain ⟨h1, h2, h3, h4, h5⟩ := sidesB_iff.1 hs
    have HS : Hid (sidesB x0 x1 = true) := hs
    have hbd := mul_bd h1 h2 h3 h4
    rw [hs] at qs
    clear hs
    by_cases hlen : (n : Int) = x0 * x1
    rotate_left
    · have E : Hid (gokB (x0, x1, zs, x3, x4, x5, ()) = false) := gok_no2 (by rw [HR.out.2]; exact hlen)
      have d1 : ((n : Int) == x0 * x1) = false := by simpa using hlen
      have w1' : IntKind.i64.wrap (x0 * x1) = x0 * x1 := wrap_i64_in _ (by omega) (by omega)
      have y0 : W0.cell? ⟨w.heap.size, 0, none⟩ = some (.int .i64 x0) := box_cell HBX.out rfl
      have y1 : W0.cell? ⟨w.heap.size, 1, none⟩ = some (.int .i64 x1) := box_cell HBX.out rfl
      have y2 : W0.cell? ⟨w.heap.size, 2, none⟩ = some (.slice a n c) := box_cell HBX.out rfl
      clear hlen
      go_enter Tryd.func19, Tryd.ntmps19
      go_wp2_with fail
      rw [← HW0.out]
      refine (qs.out _).mono ?_
      rintro e w1 ⟨rfl, rfl⟩
      go_wp2
      go_ret
      exact ⟨by rw [E.out]; rfl, bW0⟩
    · obtain ⟨W, rfl⟩ : ∃ W : Nat, x0 = W := ⟨x0.toNat, by omega⟩
      obtain ⟨H, rfl⟩ : ∃ H : Nat, x1 = H := ⟨x1.toNat, by omega⟩
      obtain rfl : n = W * H := by exact_mod_cast hlen
      have hne : zs ≠ [] := by
        intro h'; have h0 := HR.out.2; subst h'
        have h8 : 0 = W * H := h0
        have h9 : ((W * H : Nat) : Int) = (W : Int) * (H : Int) := by simp
        omega
      obtain ⟨b, off, rfl, hb, _⟩ := HR.out.1.resolve_left hne
      have qr : Hid (∀ w', Below w.heap.size w w' → Calls Tryd.prog 31 #[.agg #[.int .i64 W, .int .i64 H, .slice (some ⟨b, off, none⟩) (W * H : Nat) c, .int .i64 x3, .int .i64 x4, .bool x5]] w' fun e w'' => e = .returned (.bool (cellsB zs W (W * H))) ∧ Below w'.heap.size w' w'') := fun w' h' => rowsOk_any W H b off c x3 x4 x5 zs w' (by omega) (by omega) (by omega) HR.out.2 (HR.out.1.later h') (by have := h'.size; omega) hc (by unfold maxLen; omega)
      have qc : Hid (∀ w', Calls Tryd.prog 32 #[.agg #[.int .i64 W, .int .i64 H, .slice (some ⟨b, off, none⟩) (W * H : Nat) c, .int .i64 x3, .int .i64 x4, .bool x5]] w' fun e w'' => e = .returned (.bool (cursB W H x3 x4 x5)) ∧ Below w'.heap.size w' w'') := fun w' => curs_any W H x3 x4 _ _ c x5 w' h1 h2
      have E : Hid (gokB ((W : Int), (H : Int), zs, x3, x4, x5, ()) = (cellsB zs W (W * H) && cursB W H x3 x4 x5)) := gok_three HS.out HR.out.2
      obtain ⟨n, hn⟩ : ∃ n, n = W * H := ⟨_, rfl⟩
      rw [← hn] at qr qc hc HBX HW0 hlen E ⊢
      have HLEN : Hid ((n : Int) = (W : Int) * (H : Int)) := hlen
      have hpr : (W : Int) * (H : Int) = (n : Int) := hlen.symm
      have w1' : IntKind.i64.wrap (n : Int) = (n : Int) := wrap_i64_in _ (by omega) (by omega)
      have y0 : W0.cell? ⟨w.heap.size, 0, none⟩ = some (.int .i64 W) := box_cell HBX.out rfl
      have y1 : W0.cell? ⟨w.heap.size, 1, none⟩ = some (.int .i64 H) := box_cell HBX.out rfl
      have y2 : W0.cell? ⟨w.heap.size, 2, none⟩ = some (.slice (some ⟨b, off, none⟩) n c) := box_cell HBX.out rfl
      have y3 : W0.cell? ⟨w.heap.size, 3, none⟩ = some (.int .i64 x3) := box_cell HBX.out rfl
      have y4 : W0.cell? ⟨w.heap.size, 4, none⟩ = some (.int .i64 x4) := box_cell HBX.out rfl
      have y5 : W0.cell? ⟨w.heap.size, 5, none⟩ = some (.bool x5) := box_cell HBX.out rfl
      clear hlen hn hne hb HR HS hbd h5
      have hcb : (cellsB zs W n = false) ∨ (cellsB zs W n = true) := by cases cellsB zs W n <;> simp
      rcases hcb with hcb | hcb
      · rw [hcb] at qr E
        clear hcb
        go_enter Tryd.func19, Tryd.ntmps19
        go_wp2_with fail
        rw [← HW0.out]
        refine (qs.out _).mono ?_
        rintro e w1 ⟨rfl, rfl⟩
        go_wp2_with fail
        refine (qr.out _ bW0).mono ?_
        rintro e w2 ⟨rfl, hb2⟩
        go_wp2
        go_ret
        exact ⟨by rw [E.out]; rfl, bW0.trans (hb2.mono bW0.size)⟩
      · rw [hcb] at qr E
        clear hcb
        go_enter Tryd.func19, Tryd.ntmps19
        go_wp2_with fail
        rw [← HW0.out]
        refine (qs.out _).mono ?_
        rintro e w1 ⟨rfl, rfl⟩
        go_wp2_with fail
        refine (qr.out _ bW0).mono ?_
        rintro e w2 ⟨rfl, hb2⟩
        have b2 := bW0.trans (hb2.mono bW0.size)
        have i2 : w2.heap[w.heap.size]? = _ := (hb2.block _ (by rw [zW0]; omega)).trans HBX.out
        clear y0 y1 y2 y3 y4 y5
        have y0 : w2.cell? ⟨w.heap.size, 0, none⟩ = some (.int .i64 W) := box_cell i2 rfl
        have y1 : w2.cell? ⟨w.heap.size, 1, none⟩ = some (.int .i64 H) := box_cell i2 rfl
        have y2 : w2.cell? ⟨w.heap.size, 2, none⟩ = some (.slice (some ⟨b, off, none⟩) n c) := box_cell i2 rfl
        have y3 : w2.cell? ⟨w.heap.size, 3, none⟩ = some (.int .i64 x3) := box_cell i2 rfl
        have y4 : w2.cell? ⟨w.heap.size, 4, none⟩ = some (.int .i64 x4) := box_cell i2 rfl
        have y5 : w2.cell? ⟨w.heap.size, 5, none⟩ = some (.bool x5) := box_cell i2 rfl
        clear i2 hb2
        go_wp2_with fail
        refine (qc.out _).mono ?_
        rintro e w3 ⟨rfl, hb3⟩
        go_wp2
        go_ret
        exact ⟨by rw [E.out]; rfl, b2.trans (hb3.mono b2.size)⟩

end Go.Proofs.YthgbionamelloaaDoor
