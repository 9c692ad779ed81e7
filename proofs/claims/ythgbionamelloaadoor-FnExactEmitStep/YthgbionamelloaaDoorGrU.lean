/-
  What a right grid has.
-/
import Derived.Test.YthgbionamelloaaDoorGrT
namespace Go.Proofs.YthgbionamelloaaDoor
open Go.RowKit
set_option linter.unusedVariables false

theorem gok_parts {x0 x1 x3 x4 : Int} {x5 : Bool} {zs : List Int} (h : gokB (x0, x1, zs, x3, x4, x5, ()) = true) :
    ∃ W H : Nat, x0 = W ∧ x1 = H ∧ 2 ≤ W ∧ W ≤ 200 ∧ 1 ≤ H ∧ H ≤ 200 ∧ W * H ≤ 8000 ∧ zs.length = W * H ∧ cellsB zs W (W * H) = true ∧ cursB W H x3 x4 x5 = true := by
  unfold gokB at h
  simp only [Bool.and_eq_true, decide_eq_true_eq] at h
  obtain ⟨⟨⟨hs, hl⟩, hc⟩, hk⟩ := h
  obtain ⟨h1, h2, h3, h4, h5⟩ := sidesB_iff.1 hs
  obtain ⟨W, rfl⟩ : ∃ W : Nat, x0 = W := ⟨x0.toNat, by omega⟩
  obtain ⟨H, rfl⟩ : ∃ H : Nat, x1 = H := ⟨x1.toNat, by omega⟩
  have e : ((W * H : Nat) : Int) = (W : Int) * (H : Int) := by simp
  have hn : zs.length = W * H := by omega
  refine ⟨W, H, rfl, rfl, by omega, by omega, by omega, by omega, by omega, hn, ?_, hk⟩
  rw [Int.toNat_natCast, hn] at hc
  exact hc

theorem wd_in {r : Int} (h : wd r ≠ 0) : 0 ≤ r ∧ r ≤ 1114111 := by
  unfold wd at h
  split at h
  · rename_i hp
    unfold prn at hp
    simp only [Bool.and_eq_true] at hp
    have := hp.1
    unfold rok at this
    simp at this
    omega
  · exact absurd rfl h

theorem cell_in {c : List Int} {W i : Nat} (h : cellB c W i = true) : -1 ≤ at0 c i ∧ at0 c i ≤ 1114111 := by
  unfold cellB at h
  split at h
  · omega
  · have : wd (at0 c i) ≠ 0 := by
      intro h0; rw [h0] at h; simp at h
    have := wd_in this
    omega

theorem cells_in {c : List Int} {W n i : Nat} (h : cellsB c W n = true) (hi : i < n) : -1 ≤ at0 c i ∧ at0 c i ≤ 1114111 := cell_in (cellsB_lt h hi)

/-- The cell in column x of row y. -/
def atA (d : GrD) (x y : Int) : Int := if (gokB d && placeB d.1 d.2.1 x y) = true then at0 d.2.2.1 (y * d.1 + x).toNat else 0

theorem place_lt {W H X Y : Nat} (hx : X < W) (hy : Y < H) : Y * W + X < W * H := by
  have h1 : (Y + 1) * W ≤ H * W := Nat.mul_le_mul_right _ hy
  rw [Nat.add_mul, Nat.one_mul] at h1
  rw [Nat.mul_comm W H]; omega

end Go.Proofs.YthgbionamelloaaDoor
