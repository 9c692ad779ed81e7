/-
  The model's GridOk at any argument. By program (grs2gen.py).
-/
import Derived.Test.YthgbionamelloaaDoorGrS
namespace Go.Proofs.YthgbionamelloaaDoor
open Go.RowKit
set_option linter.unusedVariables false

set_option maxRecDepth 100000 in
set_option maxHeartbeats 4000000 in
theorem specGok_any (x0 x1 x3 x4 : Int) (a : Option Addr) (n c : Nat) (x5 : Bool) (zs : List Int) (w : World) (hr : Reads (.sl .int) w [.slice a n c] zs) :
    Calls Tryd.prog 14 #[.agg #[.int .i64 x0, .int .i64 x1, .slice a n c, .int .i64 x3, .int .i64 x4, .bool x5]] w fun e w' => e = .returned (.bool (gokB (x0, x1, zs, x3, x4, x5, ()))) ∧ Below w.heap.size w w' := by
  obtain ⟨hl, hrd, hc, hm⟩ := reads_ints hr
  have HM : Hid (c ≤ maxLen) := hm
  unfold maxLen at hm
  have HR : Hid (RdI w a zs ∧ zs.length = n) := ⟨hrd, hl⟩
  clear hr hrd hl
  have hcs : x0 < 2 ∨ (2 ≤ x0 ∧ 200 < x0) ∨ (2 ≤ x0 ∧ x0 ≤ 200 ∧ x1 < 1) ∨ (2 ≤ x0 ∧ x0 ≤ 200 ∧ 1 ≤ x1 ∧ 200 < x1) ∨ (2 ≤ x0 ∧ x0 ≤ 200 ∧ 1 ≤ x1 ∧ x1 ≤ 200 ∧ 8000 < x0 * x1) ∨ (2 ≤ x0 ∧ x0 ≤ 200 ∧ 1 ≤ x1 ∧ x1 ≤ 200 ∧ x0 * x1 ≤ 8000 ∧ (n : Int) ≠ x0 * x1) ∨ (2 ≤ x0 ∧ x0 ≤ 200 ∧ 1 ≤ x1 ∧ x1 ≤ 200 ∧ x0 * x1 ≤ 8000 ∧ (n : Int) = x0 * x1) := by omega
  rcases hcs with h | ⟨h1, h⟩ | ⟨h1, h2, h⟩ | ⟨h1, h2, h3, h⟩ | ⟨h1, h2, h3, h4, h⟩ | ⟨h1, h2, h3, h4, h5, h⟩ | ⟨h1, h2, h3, h4, h5, h⟩
  · have E : Hid (gokB (x0, x1, zs, x3, x4, x5, ()) = false) := gok_no1 (by cases hs : sidesB x0 x1 with | false => rfl | true => exact absurd (sidesB_iff.1 hs).1 (by omega))
    have t0 : decide (x0 < 2) = true := decide_eq_true (by omega)
    go_enter Tryd.func14, Tryd.ntmps14
    go_wp2
    go_ret
    exact ⟨by rw [E.out]; rfl, (Below.refl _ _).alloc (Nat.le_refl _) _⟩
  · have E : Hid (gokB (x0, x1, zs, x3, x4, x5, ()) = false) := gok_no1 (by cases hs : sidesB x0 x1 with | false => rfl | true => exact absurd (sidesB_iff.1 hs).2.1 (by omega))
    have t0 : decide (x0 < 2) = false := decide_eq_false (by omega)
    have t1 : decide (200 < x0) = true := decide_eq_true (by omega)
    go_enter Tryd.func14, Tryd.ntmps14
    go_wp2
    go_ret
    exact ⟨by rw [E.out]; rfl, (Below.refl _ _).alloc (Nat.le_refl _) _⟩
  · have E : Hid (gokB (x0, x1, zs, x3, x4, x5, ()) = false) := gok_no1 (by cases hs : sidesB x0 x1 with | false => rfl | true => exact absurd (sidesB_iff.1 hs).2.2.1 (by omega))
    have t0 : decide (x0 < 2) = false := decide_eq_false (by omega)
    have t1 : decide (200 < x0) = false := decide_eq_false (by omega)
    have t2 : decide (x1 < 1) = true := decide_eq_true (by omega)
    go_enter Tryd.func14, Tryd.ntmps14
    go_wp2
    go_ret
    exact ⟨by rw [E.out]; rfl, (Below.refl _ _).alloc (Nat.le_refl _) _⟩
  · have E : Hid (gokB (x0, x1, zs, x3, x4, x5, ()) = false) := gok_no1 (by cases hs : sidesB x0 x1 with | false => rfl | true => exact absurd (sidesB_iff.1 hs).2.2.2.1 (by omega))
    have t0 : decide (x0 < 2) = false := decide_eq_false (by omega)
    have t1 : decide (200 < x0) = false := decide_eq_false (by omega)
    have t2 : decide (x1 < 1) = false := decide_eq_false (by omega)
    have t3 : decide (200 < x1) = true := decide_eq_true (by omega)
    go_enter Tryd.func14, Tryd.ntmps14
    go_wp2
    go_ret
    exact ⟨by rw [E.out]; rfl, (Below.refl _ _).alloc (Nat.le_refl _) _⟩
  · have E : Hid (gokB (x0, x1, zs, x3, x4, x5, ()) = false) := gok_no1 (by cases hs : sidesB x0 x1 with | false => rfl | true => exact absurd (sidesB_iff.1 hs).2.2.2.2 (by omega))
    have hbd := mul_bd h1 h2 h3 h4
    obtain ⟨q, hq⟩ : ∃ q, x0 * x1 = q := ⟨_, rfl⟩
    rw [hq] at hbd h
    have wq : IntKind.i64.wrap q = q := wrap_i64_in _ (by omega) (by omega)
    have t0 : decide (x0 < 2) = false := decide_eq_false (by omega)
    have t1 : decide (200 < x0) = false := decide_eq_false (by omega)
    have t2 : decide (x1 < 1) = false := decide_eq_false (by omega)
    have t3 : decide (200 < x1) = false := decide_eq_false (by omega)
    have t4 : decide (8000 < q) = true := decide_eq_true (by omega)
    go_enter Tryd.func14, Tryd.ntmps14
    go_wp2
    go_ret
    exact ⟨by rw [E.out]; rfl, (Below.refl _ _).alloc (Nat.le_refl _) _⟩
  · have E : Hid (gokB (x0, x1, zs, x3, x4, x5, ()) = false) := gok_no2 (by rw [HR.out.2]; exact h)
    have hbd := mul_bd h1 h2 h3 h4
    obtain ⟨q, hq⟩ : ∃ q, x0 * x1 = q := ⟨_, rfl⟩
    rw [hq] at hbd h h5
    have wq : IntKind.i64.wrap q = q := wrap_i64_in _ (by omega) (by omega)
    have t0 : decide (x0 < 2) = false := decide_eq_false (by omega)
    have t1 : decide (200 < x0) = false := decide_eq_false (by omega)
    have t2 : decide (x1 < 1) = false := decide_eq_false (by omega)
    have t3 : decide (200 < x1) = false := decide_eq_false (by omega)
    have t4 : decide (8000 < q) = false := decide_eq_false (by omega)
    have t5 : ((n : Int) != q) = true := by simpa using h
    clear h
    go_enter Tryd.func14, Tryd.ntmps14
    go_wp2
    go_ret
    exact ⟨by rw [E.out]; rfl, (Below.refl _ _).alloc (Nat.le_refl _) _⟩
  · obtain ⟨W, rfl⟩ : ∃ W : Nat, x0 = W := ⟨x0.toNat, by omega⟩
    obtain ⟨H, rfl⟩ : ∃ H : Nat, x1 = H := ⟨x1.toNat, by omega⟩
    have hn : n = W * H := by exact_mod_cast h
    have hbd := mul_bd h1 h2 h3 h4
    have hne : zs ≠ [] := by
      intro h'; have h0 := HR.out.2; subst h'
      have h8 : 0 = n := h0
      omega
    obtain ⟨b, off, rfl, hb, _⟩ := HR.out.1.resolve_left hne
    rw [gok_three (sidesB_iff.2 ⟨h1, h2, h3, h4, h5⟩) (by rw [HR.out.2]; exact hn), ← hn]
    exact specGok_three W H b off c n x3 x4 x5 zs w (by omega) (by omega) (by omega) (by omega) h5 hn HR.out.2 HR.out.1 hc HM.out

/-- GridOk of both sides at an argument that reads. -/
theorem implGok_ok (c : List Value) (d : shGrid.D) (w : World) (h : Reads shGrid w c d) :
    Calls Tryd.prog 19 #[.agg c.toArray] w fun e w' => e = .returned (.bool (gokB d)) ∧ Below w.heap.size w w' := by
  obtain ⟨a, n, cc, rfl, hr⟩ := open_Grid h
  exact gok_any _ _ _ _ a n cc _ _ w hr
theorem specGok_ok (c : List Value) (d : shGrid.D) (w : World) (h : Reads shGrid w c d) :
    Calls Tryd.prog 14 #[.agg c.toArray] w fun e w' => e = .returned (.bool (gokB d)) ∧ Below w.heap.size w w' := by
  obtain ⟨a, n, cc, rfl, hr⟩ := open_Grid h
  exact specGok_any _ _ _ _ a n cc _ _ w hr

end Go.Proofs.YthgbionamelloaaDoor
