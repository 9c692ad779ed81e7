/-
  The program's looks at a whole grid: rowOf, rowsOk, placeOk, cursorOk, GridOk.
-/
import Derived.Test.YtojalheohpkdoaaGrI
import Derived.Test.YtojalheohpkdoaaTyGrid
namespace Go.Proofs.Ytojalheohpkdoaa
open Go.RowKit
set_option linter.unusedVariables false

/-- A piece of a row that reads. -/
theorem rdI_sub {w : World} {b off n p m : Nat} {zs : List Int} (h : RdI w (some ⟨b, off, none⟩) zs) (hm : p + m ≤ zs.length) : RdI w (some ⟨b, off + p, none⟩) ((zs.drop p).take m) := by
  rcases h with h | ⟨b', off', he, hb, hc⟩
  · left; rw [h]; simp
  · obtain ⟨rfl, rfl⟩ : b = b' ∧ off = off' := by simpa using he
    right
    refine ⟨b, off + p, rfl, hb, fun i hi => ?_⟩
    have hi' : i < m := by simp at hi; omega
    have := hc (p + i) (by simp at hi; omega)
    rw [List.getElem?_take_of_lt hi', List.getElem?_drop, Nat.add_assoc]
    exact this

theorem gok_no1 {x0 x1 x3 x4 : Int} {x5 : Bool} {zs : List Int} (h : sidesB x0 x1 = false) : gokB (x0, x1, zs, x3, x4, x5, ()) = false := by
  unfold gokB; rw [h]; rfl
theorem gok_no2 {x0 x1 x3 x4 : Int} {x5 : Bool} {zs : List Int} (h : (zs.length : Int) ≠ x0 * x1) : gokB (x0, x1, zs, x3, x4, x5, ()) = false := by
  have : decide ((zs.length : Int) = x0 * x1) = false := decide_eq_false h
  unfold gokB; rw [this]; simp
theorem gok_three {W H : Nat} {x3 x4 : Int} {x5 : Bool} {zs : List Int} (h1 : sidesB W H = true) (h2 : zs.length = W * H) : gokB ((W : Int), (H : Int), zs, x3, x4, x5, ()) = (cellsB zs W (W * H) && cursB W H x3 x4 x5) := by
  have : decide ((zs.length : Int) = (W : Int) * (H : Int)) = true := decide_eq_true (by rw [h2]; simp)
  unfold gokB
  rw [h1, this, Int.toNat_natCast, h2]; rfl

end Go.Proofs.Ytojalheohpkdoaa
