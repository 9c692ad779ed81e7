/-
  The program's looks at a grid: sidesOk, placeOk, halfAt, rowOk, rowOf, rowsOk, cursorOk, GridOk.
-/
import Derived.Test.YtojalheohpkdoaaGrP
import Derived.Test.YtojalheohpkdoaaInts
import Derived.Test.YtojalheohpkdoaaPlain
namespace Go.Proofs.Ytojalheohpkdoaa
open Go.RowKit
set_option linter.unusedVariables false

set_option maxHeartbeats 1000000 in
theorem sides_any (x y : Int) (w : World) :
    Calls Try.prog 20 #[.int .i64 x, .int .i64 y] w fun e w' => e = .returned (.bool (sidesB x y)) ∧ w' = w := by
  have hc : x < 2 ∨ (2 ≤ x ∧ 200 < x) ∨ (2 ≤ x ∧ x ≤ 200 ∧ y < 1) ∨ (2 ≤ x ∧ x ≤ 200 ∧ 1 ≤ y ∧ 200 < y) ∨ (2 ≤ x ∧ x ≤ 200 ∧ 1 ≤ y ∧ y ≤ 200 ∧ 8000 < x * y) ∨ (2 ≤ x ∧ x ≤ 200 ∧ 1 ≤ y ∧ y ≤ 200 ∧ x * y ≤ 8000) := by omega
  rcases hc with h | ⟨h1, h⟩ | ⟨h1, h2, h⟩ | ⟨h1, h2, h3, h⟩ | ⟨h1, h2, h3, h4, h⟩ | ⟨h1, h2, h3, h4, h⟩
  · have E : sidesB x y = false := by cases hs : sidesB x y with | false => rfl | true => exact absurd (sidesB_iff.1 hs).1 (by omega)
    rw [E]
    have d1 : decide (2 ≤ x) = false := decide_eq_false (by omega)
    go_enter Try.func20, Try.ntmps20
    go_wp2
    go_ret
    exact ⟨rfl, rfl⟩
  · have E : sidesB x y = false := by cases hs : sidesB x y with | false => rfl | true => exact absurd (sidesB_iff.1 hs).2.1 (by omega)
    rw [E]
    have d1 : decide (2 ≤ x) = true := decide_eq_true h1
    have d2 : decide (x ≤ 200) = false := decide_eq_false (by omega)
    go_enter Try.func20, Try.ntmps20
    go_wp2
    go_ret
    exact ⟨rfl, rfl⟩
  · have E : sidesB x y = false := by cases hs : sidesB x y with | false => rfl | true => exact absurd (sidesB_iff.1 hs).2.2.1 (by omega)
    rw [E]
    have d1 : decide (2 ≤ x) = true := decide_eq_true h1
    have d2 : decide (x ≤ 200) = true := decide_eq_true h2
    have d3 : decide (1 ≤ y) = false := decide_eq_false (by omega)
    go_enter Try.func20, Try.ntmps20
    go_wp2
    go_ret
    exact ⟨rfl, rfl⟩
  · have E : sidesB x y = false := by cases hs : sidesB x y with | false => rfl | true => exact absurd (sidesB_iff.1 hs).2.2.2.1 (by omega)
    rw [E]
    have d1 : decide (2 ≤ x) = true := decide_eq_true h1
    have d2 : decide (x ≤ 200) = true := decide_eq_true h2
    have d3 : decide (1 ≤ y) = true := decide_eq_true h3
    have d4 : decide (y ≤ 200) = false := decide_eq_false (by omega)
    go_enter Try.func20, Try.ntmps20
    go_wp2
    go_ret
    exact ⟨rfl, rfl⟩
  · have E : sidesB x y = false := by cases hs : sidesB x y with | false => rfl | true => exact absurd (sidesB_iff.1 hs).2.2.2.2 (by omega)
    rw [E]
    have hb := mul_bd h1 h2 h3 h4
    have w1 : IntKind.i64.wrap (x * y) = x * y := wrap_i64_in _ (by omega) (by omega)
    have d1 : decide (2 ≤ x) = true := decide_eq_true h1
    have d2 : decide (x ≤ 200) = true := decide_eq_true h2
    have d3 : decide (1 ≤ y) = true := decide_eq_true h3
    have d4 : decide (y ≤ 200) = true := decide_eq_true h4
    have d5 : decide (x * y ≤ 8000) = false := decide_eq_false (by omega)
    go_enter Try.func20, Try.ntmps20
    go_wp2
    go_ret
    exact ⟨rfl, rfl⟩
  · have E : sidesB x y = true := sidesB_iff.2 ⟨h1, h2, h3, h4, h⟩
    rw [E]
    have hb := mul_bd h1 h2 h3 h4
    have w1 : IntKind.i64.wrap (x * y) = x * y := wrap_i64_in _ (by omega) (by omega)
    have d1 : decide (2 ≤ x) = true := decide_eq_true h1
    have d2 : decide (x ≤ 200) = true := decide_eq_true h2
    have d3 : decide (1 ≤ y) = true := decide_eq_true h3
    have d4 : decide (y ≤ 200) = true := decide_eq_true h4
    have d5 : decide (x * y ≤ 8000) = true := decide_eq_true h
    go_enter Try.func20, Try.ntmps20
    go_wp2
    go_ret
    exact ⟨rfl, rfl⟩

end Go.Proofs.Ytojalheohpkdoaa
