/-
  Rows that are filled from the left; what scrolling and clearing give.
-/
import Derived.Test.YtmiggbdlhajkiaaGrMS
namespace Go.Proofs.Ytmiggbdlhajkiaa
open Go.RowKit
set_option linter.unusedVariables false

/-- The first j of A, and then those of zs. -/
def mixI (A zs : List Int) (j : Nat) : List Int := A.take j ++ zs.drop j
theorem mixI_len {A zs : List Int} {n j : Nat} (hA : A.length = n) (hz : zs.length = n) : (mixI A zs j).length = n := by unfold mixI; simp; omega
theorem mixI_full {A zs : List Int} {n : Nat} (hA : A.length = n) (hz : zs.length = n) : mixI A zs n = A := by
  unfold mixI; rw [List.take_of_length_le (by omega), List.drop_eq_nil_of_le (by omega), List.append_nil]
theorem mixI_at {A zs : List Int} {n j : Nat} (hA : A.length = n) (hj : j ≤ n) (i : Nat) : (mixI A zs j)[i]? = if i < j then A[i]? else zs[i]? := by
  unfold mixI
  have hl : (A.take j).length = j := by rw [List.length_take]; omega
  by_cases h : i < j
  · rw [if_pos h, List.getElem?_append_left (by omega), List.getElem?_take_of_lt h]
  · rw [if_neg h, List.getElem?_append_right (by omega), hl, List.getElem?_drop]
    congr 1; omega
theorem mixI_set {A zs : List Int} {n j : Nat} (hA : A.length = n) (hz : zs.length = n) (hj : j < n) :
    ((mixI A zs j).map (Value.int .i64)).set j (.int .i64 (at0 A j)) = (mixI A zs (j + 1)).map (Value.int .i64) := by
  apply List.ext_getElem?
  intro i
  rw [List.getElem?_set, List.length_map, mixI_len hA hz, List.getElem?_map, List.getElem?_map, mixI_at hA (by omega), mixI_at hA (by omega)]
  by_cases e : j = i
  · subst e
    rw [if_pos rfl, if_pos hj, if_pos (by omega)]
    unfold at0
    rw [List.getElem?_eq_getElem (by omega)]; rfl
  · rw [if_neg e]
    by_cases h : i < j
    · rw [if_pos h, if_pos (by omega)]
    · rw [if_neg h, if_neg (by omega)]

theorem mixI_same {A zs : List Int} {n j : Nat} (hA : A.length = n) (hz : zs.length = n) (hj : j < n) (h : at0 A j = at0 zs j) : mixI A zs (j + 1) = mixI A zs j := by
  apply List.ext_getElem?
  intro i
  rw [mixI_at hA (by omega), mixI_at hA (by omega)]
  by_cases e : i = j
  · subst e
    rw [if_pos (by omega), if_neg (by omega), List.getElem?_eq_getElem (by omega), List.getElem?_eq_getElem (by omega)]
    unfold at0 at h
    rw [List.getElem?_eq_getElem (by omega), List.getElem?_eq_getElem (by omega)] at h
    exact congrArg some h
  · by_cases h' : i < j
    · rw [if_pos h', if_pos (by omega)]
    · rw [if_neg h', if_neg (by omega)]

theorem scr_at1 {b : Int} {W j : Nat} {zs : List Int} (h : j + W < zs.length) : at0 (scr b W zs) j = at0 zs (j + W) := by
  unfold at0 scr
  rw [List.getElem?_append_left (by simp; omega), List.getElem?_drop, Nat.add_comm]
theorem scr_at2 {b : Int} {W j : Nat} {zs : List Int} (h : ¬ j + W < zs.length) (hj : j < zs.length) (hW : W ≤ zs.length) : at0 (scr b W zs) j = b := by
  unfold at0 scr
  rw [List.getElem?_append_right (by simp; omega), List.getElem?_replicate, if_pos (by simp; omega)]
  rfl

theorem cell_apart {w : World} {b j c i : Nat} (u : Value) (o : Unit) (h : ¬ b = c) : (w.setCell ⟨b, j, none⟩ u).cell? ⟨c, i, none⟩ = w.cell? ⟨c, i, none⟩ := by
  unfold World.cell?
  simp only
  rw [box_other u (fun e => h e.symm)]

end Go.Proofs.Ytmiggbdlhajkiaa
