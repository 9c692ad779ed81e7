/-
  What bytes cost: as plain mathematics, and the model's loops.
-/
import Derived.Test.YtcchjcllkfaadaaDoorKeep
import Derived.Test.YtcchjcllkfaadaaDoorPlain
namespace Go.Proofs.YtcchjcllkfaadaaDoor
open Go.RowKit
set_option linter.unusedVariables false
set_option linter.unusedSimpArgs false

/-- A byte of a sequence's arguments. -/
def argC (x : Int) : Bool := (decide (48 ≤ x) && decide (x ≤ 57)) || decide (x = 59)
/-- What is behind a sequence whose first byte 27 stood ahead. -/
def behZ : List Int → List Int
  | [] => []
  | x :: r => if x = 91 then (r.dropWhile argC).drop 1 else x :: r

theorem dropWhile_len {α : Type} (p : α → Bool) : ∀ l : List α, (l.dropWhile p).length ≤ l.length
  | [] => Nat.le_refl _
  | a :: l => by
    rw [List.dropWhile_cons]
    split
    · have := dropWhile_len p l; simp; omega
    · exact Nat.le_refl _

theorem behZ_len : ∀ l : List Int, (behZ l).length ≤ l.length
  | [] => Nat.le_refl _
  | x :: r => by
    simp only [behZ]
    by_cases h : x = 91
    · rw [if_pos h]
      have := dropWhile_len argC r
      simp only [List.length_drop, List.length_cons]; omega
    · rw [if_neg h]; exact Nat.le_refl _

theorem behZ_no {x : Int} (h : x ≠ 91) (r : List Int) : behZ (x :: r) = x :: r := by simp only [behZ]; rw [if_neg h]
theorem behZ_yes (r : List Int) : behZ (91 :: r) = (r.dropWhile argC).drop 1 := by simp [behZ]

def costZ : List Int → Nat
  | [] => 0
  | x :: r => if x = 27 then costZ (behZ r) else costZ r + 1
termination_by l => l.length
decreasing_by
  all_goals (have h9 := behZ_len r; simp only [List.length_cons]; omega)

theorem costZ_nil : costZ [] = 0 := by unfold costZ; rfl
theorem costZ_esc (r : List Int) : costZ (27 :: r) = costZ (behZ r) := by rw [costZ]; rw [if_pos rfl]
theorem costZ_one {x : Int} (h : x ≠ 27) (r : List Int) : costZ (x :: r) = costZ r + 1 := by rw [costZ]; rw [if_neg h]
theorem costZ_le : ∀ (n : Nat) (l : List Int), l.length ≤ n → costZ l ≤ l.length
  | _, [], _ => by rw [costZ_nil]; exact Nat.le_refl _
  | 0, _ :: _, h => by simp at h
  | n + 1, x :: r, h => by
    have hr : r.length ≤ n := by simpa using h
    by_cases hx : x = 27
    · subst hx
      rw [costZ_esc]
      have h1 := behZ_len r
      have h2 := costZ_le n (behZ r) (by omega)
      simp; omega
    · rw [costZ_one hx]
      have h2 := costZ_le n r hr
      simp; omega

theorem drop_at {zs : List Int} {k : Nat} (h : k < zs.length) : zs.drop k = (zs[k]?.getD 0) :: zs.drop (k + 1) := by
  rw [List.drop_eq_getElem_cons h]
  simp [h]

theorem argC_yes {x : Int} (h : (48 ≤ x ∧ x ≤ 57) ∨ x = 59) : argC x = true := by
  unfold argC
  rcases h with ⟨h1, h2⟩ | h
  · simp [h1, h2]
  · simp [h]
theorem argC_no {x : Int} (h : ¬ ((48 ≤ x ∧ x ≤ 57) ∨ x = 59)) : argC x = false := by
  unfold argC
  simp only [not_or, not_and] at h
  simp
  exact ⟨fun h1 => by have := h.1 h1; omega, h.2⟩

end Go.Proofs.YtcchjcllkfaadaaDoor
