/-
  What stays right: scrolled cells; putting a rune, both ways one.
-/
import Derived.Test.YtmiggbdlhajkiaaGrMP
import Derived.Test.YtmiggbdlhajkiaaGrQ
namespace Go.Proofs.Ytmiggbdlhajkiaa
open Go.RowKit
set_option linter.unusedVariables false

theorem cellsB_all {c : List Int} {W : Nat} : ∀ {n : Nat}, (∀ i, i < n → cellB c W i = true) → cellsB c W n = true
  | 0, _ => rfl
  | n + 1, h => by
    rw [cellsB, cellsB_all (fun i hi => h i (by omega)), h n (by omega)]; rfl

theorem wd_blank : wd 32 = 1 := by decide +kernel

theorem scr_cells {W H : Nat} {zs : List Int} (hW : 1 ≤ W) (hH : 1 ≤ H) (hl : zs.length = W * H) (h : cellsB zs W (W * H) = true) : cellsB (scr 32 W zs) W (W * H) = true := by
  have hWn : W ≤ zs.length := by rw [hl]; exact Nat.le_mul_of_pos_right _ (by omega)
  refine cellsB_all fun i hi => ?_
  by_cases hs : i + W < zs.length
  · have hc := cellsB_lt h (show i + W < W * H by omega)
    have e0 : at0 (scr 32 W zs) i = at0 zs (i + W) := scr_at1 hs
    have em : (i + W) % W = i % W := Nat.add_mod_right _ _
    by_cases hh : at0 zs (i + W) = -1
    · by_cases hm : i % W = 0
      · rw [cellB_half0 hh (by rw [em]; exact hm)] at hc; cases hc
      · rw [cellB_half hh (by rw [em]; exact hm)] at hc
        have hi1 : 1 ≤ i := by
          rcases Nat.eq_zero_or_pos i with h0 | h0
          · subst h0; simp at hm
          · exact h0
        rw [cellB_half (by rw [e0]; exact hh) hm, scr_at1 (by omega), show i - 1 + W = i + W - 1 by omega]
        exact hc
    · have hd := wd_bd (at0 zs (i + W))
      have h3 : wd (at0 zs (i + W)) = 0 ∨ wd (at0 zs (i + W)) = 1 ∨ wd (at0 zs (i + W)) = 2 := by omega
      rcases h3 with h3 | h3 | h3
      · rw [cellB_none hh h3] at hc; cases hc
      · exact cellB_one (by rw [e0]; exact hh) (by rw [e0]; exact h3)
      · rw [cellB_two hh h3, em] at hc
        rw [cellB_two (by rw [e0]; exact hh) (by rw [e0]; exact h3)]
        simp at hc ⊢
        have hnl := not_last hW (show i + W < W * H by omega) (by rw [em]; exact hc.1)
        refine ⟨hc.1, ?_⟩
        rw [scr_at1 (by omega), show i + 1 + W = i + W + 1 by omega]
        exact hc.2
  · have e0 : at0 (scr 32 W zs) i = 32 := scr_at2 hs (by omega) hWn
    exact cellB_one (by rw [e0]; omega) (by rw [e0]; exact wd_blank)

theorem up_put {a d : Nat} {r : Int} {zs : List Int} : up (-32) (putZ a d r (-1) zs) = putZ a d (r - 32) (-33) (up (-32) zs) := by
  unfold putZ up
  rw [List.map_append, List.map_append, List.map_take, List.map_take, List.map_drop]
  congr 1

end Go.Proofs.Ytmiggbdlhajkiaa
