/-
  The model's GridOk.
-/
import Derived.Test.YtojalheohpkdoaaGrG
namespace Go.Proofs.Ytojalheohpkdoaa
open Go.RowKit
set_option linter.unusedVariables false

theorem belowD {B : Nat} {w w' : World} (h : Below B w w') (q : Nat) : Below B w (w'.drewN q) := by
  induction q with
  | zero => exact h
  | succ q ih => exact ih.drew

theorem cellB_half0 {c : List Int} {W k : Nat} (h : at0 c k = -1) (hm : k % W = 0) : cellB c W k = false := by
  unfold cellB; rw [if_pos h, hm]; rfl
theorem cellB_half {c : List Int} {W k : Nat} (h : at0 c k = -1) (hm : k % W ≠ 0) : cellB c W k = decide (wd (at0 c (k - 1)) = 2) := by
  unfold cellB; rw [if_pos h, decide_eq_true hm]; rfl
theorem cellB_none {c : List Int} {W k : Nat} (h : at0 c k ≠ -1) (hw : wd (at0 c k) = 0) : cellB c W k = false := by
  unfold cellB; rw [if_neg h, hw]; simp
theorem cellB_one {c : List Int} {W k : Nat} (h : at0 c k ≠ -1) (hw : wd (at0 c k) = 1) : cellB c W k = true := by
  unfold cellB; rw [if_neg h, hw]; simp
theorem cellB_two {c : List Int} {W k : Nat} (h : at0 c k ≠ -1) (hw : wd (at0 c k) = 2) : cellB c W k = (decide (k % W ≠ W - 1) && decide (at0 c (k + 1) = -1)) := by
  unfold cellB; rw [if_neg h, hw]; simp

theorem cellsB_succ {c : List Int} {W k : Nat} (h : cellsB c W k = true) (h' : cellB c W k = true) : cellsB c W (k + 1) = true := by
  rw [cellsB, h, h']; rfl

theorem not_last {W H k : Nat} (hW : 1 ≤ W) (hk : k < W * H) (hm : k % W ≠ W - 1) : k + 1 < W * H := by
  rcases Nat.lt_or_ge (k + 1) (W * H) with h | h
  · exact h
  · exfalso
    have e : k + 1 = W * H := by omega
    have h1 : (k + 1) % W = 0 := by rw [e]; exact Nat.mul_mod_right _ _
    have h2 := Nat.div_add_mod k W
    have h3 := Nat.mod_lt k (show W > 0 by omega)
    have h4 : k + 1 = (k % W + 1) + W * (k / W) := by omega
    rw [h4, Nat.add_mul_mod_self_left, Nat.mod_eq_of_lt (by omega)] at h1
    omega

end Go.Proofs.Ytojalheohpkdoaa
