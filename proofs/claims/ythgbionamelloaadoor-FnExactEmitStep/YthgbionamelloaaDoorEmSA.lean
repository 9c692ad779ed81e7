/-
  Moving the cursor: EmitStep of the program, whatever comes.
-/
import Derived.Test.YthgbionamelloaaDoorEmSPh
import Derived.Test.YthgbionamelloaaDoorEmSPw
import Derived.Test.YthgbionamelloaaDoorEmSPm
import Derived.Test.YthgbionamelloaaDoorGrU
namespace Go.Proofs.YthgbionamelloaaDoor
open Go.RowKit
set_option linter.unusedVariables false
set_option linter.unusedSimpArgs false

theorem step_bd {x0 x1 x3 x4 : Int} {x5 : Bool} {zs : List Int} {x y : Int} (h : stepOk (x0, x1, zs, x3, x4, x5, ()) x y = true) : (0 ≤ x ∧ x < 200 ∧ 0 ≤ y ∧ y < 200) ∧ (0 ≤ x3 ∧ x3 < 200) := by
  unfold stepOk at h
  simp only [Bool.and_eq_true] at h
  obtain ⟨W, H, rfl, rfl, g1, g2, g3, g4, g5, hlen, hcl, hcu⟩ := gok_parts h.1
  obtain ⟨p1, p2, p3, p4⟩ := placeB_iff.1 h.2
  obtain ⟨c1, c2, c3, c4, c5⟩ := cursB_iff.1 hcu
  omega

theorem implStep_any (x0 x1 x3 x4 : Int) (a : Option Addr) (n c : Nat) (x5 : Bool) (zs : List Int) (x y : Int) (w : World) (htab : Lib.TabIs Tryd.prog w "internal/strconv.uint64pow10" .u64 Lib.pow10Tab) (hr : Reads (.sl .int) w [.slice a n c] zs) :
    Calls Tryd.prog 7 #[.agg #[.int .i64 x0, .int .i64 x1, .slice a n c, .int .i64 x3, .int .i64 x4, .bool x5], .int .i64 x, .int .i64 y] w fun e w' => ∃ v, e = .returned (.tuple #[v, .bool (stepOk (x0, x1, zs, x3, x4, x5, ()) x y)]) ∧ Txt w' w.heap.size v (stepA (x0, x1, zs, x3, x4, x5, ()) x y) ∧ Below w.heap.size w w' := by
  cases hok : stepOk (x0, x1, zs, x3, x4, x5, ()) x y with
  | false => have h := implStep_no x0 x1 x3 x4 a n c x5 zs x y w htab hr hok; rw [hok] at h; exact h
  | true =>
    have hb := step_bd hok
    by_cases hy : y = x4
    · subst hy
      cases x5 with
      | true => have h := implStep_wrap x0 x1 x3 y a n c zs x w htab hr hok hb.1 hb.2; rw [hok] at h; exact h
      | false =>
        by_cases hx : x = x3
        · subst hx
          have h := implStep_here x0 x1 x y a n c zs w htab hr hok hb.1 hb.2; rw [hok] at h; exact h
        · have h := implStep_move x0 x1 x3 y a n c zs x w htab hr hok hb.1 hb.2 hx; rw [hok] at h; exact h
    · have h := implStep_row x0 x1 x3 x4 a n c x5 zs x y w htab hr hok hb.1 hb.2 hy; rw [hok] at h; exact h

end Go.Proofs.YthgbionamelloaaDoor
