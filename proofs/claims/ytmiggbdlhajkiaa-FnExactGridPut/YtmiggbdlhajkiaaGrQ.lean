/-
  Clearing by places and clearing cell by cell are one on a right grid.
-/
import Derived.Test.YtmiggbdlhajkiaaGrZ
import Derived.Test.YtmiggbdlhajkiaaGrMB
import Derived.Test.YtmiggbdlhajkiaaGrS
namespace Go.Proofs.Ytmiggbdlhajkiaa
open Go.RowKit
set_option linter.unusedVariables false

/-- Each wide rune has its half, each half its rune. -/
def Paired (zs : List Int) : Prop := ∀ i, i < zs.length → (wd (at0 zs i) = 2 → i + 1 < zs.length ∧ at0 zs (i + 1) = -1) ∧ (at0 zs i = -1 → 1 ≤ i ∧ wd (at0 zs (i - 1)) = 2)

theorem paired_of {zs : List Int} {W H : Nat} (hW : 1 ≤ W) (hl : zs.length = W * H) (h : cellsB zs W (W * H) = true) : Paired zs := by
  intro i hi
  have hc := cellsB_lt h (show i < W * H by omega)
  constructor
  · intro h2
    have hne : at0 zs i ≠ -1 := by intro e; rw [e, wd_half] at h2; omega
    rw [cellB_two hne h2] at hc
    simp at hc
    refine ⟨?_, hc.2⟩
    rw [hl]
    exact not_last hW (by omega) hc.1
  · intro h1
    by_cases hm : i % W = 0
    · rw [cellB_half0 h1 hm] at hc; cases hc
    · rw [cellB_half h1 hm] at hc
      refine ⟨?_, by simpa using hc⟩
      rcases Nat.eq_zero_or_pos i with h0 | h0
      · subst h0; simp at hm
      · exact h0

theorem clrR_at {f t : Nat} {b : Int} {zs : List Int} (h1 : f ≤ t) (h2 : t ≤ zs.length) (i : Nat) : (clrR f t b zs)[i]? = if f ≤ i ∧ i < t then some b else zs[i]? := by
  unfold clrR
  have hl : (zs.take f).length = f := by rw [List.length_take]; omega
  by_cases h : i < f
  · rw [if_neg (by omega), List.getElem?_append_left (by omega), List.getElem?_take_of_lt h]
  · by_cases h' : i < t
    · rw [if_pos ⟨by omega, h'⟩, List.getElem?_append_right (by omega), hl, List.getElem?_append_left (by simp; omega), List.getElem?_replicate, if_pos (by omega)]
    · rw [if_neg (by omega), List.getElem?_append_right (by omega), hl, List.getElem?_append_right (by simp; omega), List.length_replicate, List.getElem?_drop]
      congr 1; omega

theorem other_in {zs : List Int} (hp : Paired zs) {i : Nat} (hi : i < zs.length) : ∃ o : Nat, otherM zs i = o ∧ o < zs.length ∧ ((o = i + 1 ∧ at0 zs o = -1) ∨ (i = o + 1 ∧ at0 zs i = -1) ∨ o = i) := by
  unfold otherM
  obtain ⟨h1, h2⟩ := hp i hi
  by_cases hw : wd (at0 zs i) = 2
  · rw [if_pos hw]; exact ⟨i + 1, rfl, (h1 hw).1, .inl ⟨rfl, (h1 hw).2⟩⟩
  · rw [if_neg hw]
    by_cases hh : at0 zs i = -1
    · rw [if_pos hh]; have := (h2 hh).1; exact ⟨i - 1, by omega, by omega, .inr (.inl ⟨by omega, hh⟩)⟩
    · rw [if_neg hh]; exact ⟨i, rfl, hi, .inr (.inr rfl)⟩

theorem goes_iff {x y : Int} {zs : List Int} {i : Nat} : goesM x y zs i = true ↔ (x ≤ (i : Int) ∧ (i : Int) < y) ∨ (x ≤ otherM zs i ∧ otherM zs i < y) := by
  unfold goesM; simp

theorem clr_same {x y : Int} {zs : List Int} (hp : Paired zs) : clrZ (-1) 32 x y zs = clrM x y zs := by
  apply List.ext_getElem?
  intro i
  by_cases hi : i < zs.length
  rotate_left
  · rw [show (clrM x y zs)[i]? = none from List.getElem?_eq_none (by rw [clrM_len]; omega)]
    unfold clrZ
    split
    · rename_i h
      have hT : (min y (zs.length : Int)).toNat ≤ zs.length := by omega
      have hU : clrT (-1) zs (min y (zs.length : Int)).toNat ≤ zs.length := by unfold clrT; split <;> omega
      have hF : clrF (-1) zs (max x 0).toNat ≤ (max x 0).toNat := by unfold clrF; split <;> omega
      have hT2 : (min y (zs.length : Int)).toNat ≤ clrT (-1) zs (min y (zs.length : Int)).toNat := by unfold clrT; split <;> omega
      rw [List.getElem?_eq_none (by rw [clrR_len (by omega) hU]; omega)]
    · rw [List.getElem?_eq_none (by omega)]
  obtain ⟨o, ho1, ho2, ho3⟩ := other_in hp hi
  have hM : (clrM x y zs)[i]? = if goesM x y zs i = true then some 32 else zs[i]? := by
    unfold clrM
    rw [List.getElem?_map, List.getElem?_range hi]
    show some (if goesM x y zs i = true then (32 : Int) else at0 zs i) = _
    by_cases hg : goesM x y zs i = true
    · rw [if_pos hg, if_pos hg]
    · rw [if_neg hg, if_neg hg]; unfold at0; rw [List.getElem?_eq_getElem hi]; rfl
  rw [hM]
  obtain ⟨a, ha⟩ : ∃ a : Nat, max x 0 = (a : Int) := ⟨(max x 0).toNat, by omega⟩
  unfold clrZ
  rw [ha]
  by_cases hlt : (a : Int) < min y (zs.length : Int)
  · obtain ⟨t, ht⟩ : ∃ t : Nat, min y (zs.length : Int) = (t : Int) := ⟨(min y (zs.length : Int)).toNat, by omega⟩
    rw [ht] at hlt ⊢
    rw [if_pos hlt, Int.toNat_natCast, Int.toNat_natCast]
    have htn : t ≤ zs.length := by omega
    have hFd : (at0 zs a = -1 ∧ 1 ≤ a ∧ wd (at0 zs (a - 1)) = 2 ∧ clrF (-1) zs a = a - 1) ∨ (at0 zs a ≠ -1 ∧ clrF (-1) zs a = a) := by
      unfold clrF
      by_cases h : at0 zs a = -1
      · have := (hp a (by omega)).2 h
        exact .inl ⟨h, this.1, this.2, if_pos h⟩
      · exact .inr ⟨h, if_neg h⟩
    have hTd : (t < zs.length ∧ at0 zs t = -1 ∧ clrT (-1) zs t = t + 1) ∨ (¬ (t < zs.length ∧ at0 zs t = -1) ∧ clrT (-1) zs t = t) := by
      unfold clrT
      by_cases h : t < zs.length ∧ at0 zs t = -1
      · exact .inl ⟨h.1, h.2, if_pos h⟩
      · exact .inr ⟨h, if_neg h⟩
    obtain ⟨F, hF⟩ : ∃ F, F = clrF (-1) zs a := ⟨_, rfl⟩
    obtain ⟨U, hU⟩ : ∃ U, U = clrT (-1) zs t := ⟨_, rfl⟩
    rw [← hF] at hFd ⊢
    rw [← hU] at hTd ⊢
    rw [clrR_at (by rcases hFd with h | h <;> rcases hTd with h' | h' <;> omega) (by rcases hTd with h' | h' <;> omega)]
    have key : (F ≤ i ∧ i < U) ↔ goesM x y zs i = true := by
      rw [goes_iff, ho1]
      constructor
      · rintro ⟨h1, h2⟩
        by_cases hr : a ≤ i ∧ i < t
        · left; omega
        · right
          by_cases hia : i < a
          · -- the rune whose half is the first cell that goes
            rcases hFd with ⟨f1, f2, f3, f4⟩ | ⟨f1, f4⟩
            · have ei : i = a - 1 := by omega
              have hw : wd (at0 zs i) = 2 := by rw [ei]; exact f3
              have hoi : otherM zs i = (i : Int) + 1 := by unfold otherM; rw [if_pos hw]
              omega
            · omega
          · rcases hTd with ⟨t1, t2, t3⟩ | ⟨t1, t3⟩
            · have ei : i = t := by omega
              have hh : at0 zs i = -1 := by rw [ei]; exact t2
              have hoi : otherM zs i = (i : Int) - 1 := by
                unfold otherM
                rw [if_neg (by rw [hh, wd_half]; omega), if_pos hh]
              omega
            · omega
      · intro h
        rcases h with h | h
        · rcases hFd with f | f <;> rcases hTd with t' | t' <;> omega
        · rcases ho3 with ⟨e1, e2⟩ | ⟨e1, e2⟩ | e1
          · by_cases hia : i < a
            · have ea : o = a := by omega
              rw [ea] at e2
              rcases hFd with ⟨f1, f2, f3, f4⟩ | ⟨f1, f4⟩
              · rcases hTd with t' | t' <;> omega
              · exact absurd e2 f1
            · rcases hFd with f | f <;> rcases hTd with t' | t' <;> omega
          · by_cases hit : i < t
            · rcases hFd with f | f <;> rcases hTd with t' | t' <;> omega
            · have ei : i = t := by omega
              rw [ei] at e2
              rcases hTd with ⟨t1, t2, t3⟩ | ⟨t1, t3⟩
              · rcases hFd with f | f <;> omega
              · exact absurd ⟨by omega, e2⟩ t1
          · rcases hFd with f | f <;> rcases hTd with t' | t' <;> omega
    by_cases hg : goesM x y zs i = true
    · rw [if_pos (key.2 hg), if_pos hg]
    · rw [if_neg (fun h => hg (key.1 h)), if_neg hg]
  · rw [if_neg hlt, if_neg]
    rw [goes_iff, ho1]
    omega

theorem up_clr {x y : Int} {zs : List Int} (h0 : 0 < zs.length) : up (-32) (clrZ (-1) 32 x y zs) = clrZ (-33) 0 x y (up (-32) zs) := by
  unfold clrZ
  rw [up_len]
  split
  · rename_i h
    obtain ⟨a, ha⟩ : ∃ a : Nat, max x 0 = (a : Int) := ⟨(max x 0).toNat, by omega⟩
    obtain ⟨t, ht⟩ : ∃ t : Nat, min y (zs.length : Int) = (t : Int) := ⟨(min y (zs.length : Int)).toNat, by omega⟩
    rw [ha, ht, Int.toNat_natCast, Int.toNat_natCast]
    have han : a < zs.length := by omega
    have e1 : clrF (-33) (up (-32) zs) a = clrF (-1) zs a := by
      unfold clrF
      rw [up_at han]
      by_cases h : at0 zs a = -1
      · rw [if_pos h, if_pos (by omega)]
      · rw [if_neg h, if_neg (by omega)]
    have e2 : clrT (-33) (up (-32) zs) t = clrT (-1) zs t := by
      unfold clrT
      rw [up_len]
      by_cases h : t < zs.length
      · rw [up_at h]
        by_cases h' : at0 zs t = -1
        · rw [if_pos ⟨h, by omega⟩, if_pos ⟨h, h'⟩]
        · rw [if_neg (fun q => h' (by have := q.2; omega)), if_neg (fun q => h' q.2)]
      · rw [if_neg (fun q => h q.1), if_neg (fun q => h q.1)]
    rw [e1, e2]
    unfold clrR up
    rw [List.map_append, List.map_append, List.map_take, List.map_drop, List.map_replicate]
    rfl
  · rfl

end Go.Proofs.Ytmiggbdlhajkiaa
