/-
  A right terminal as plain mathematics.
-/
import Derived.Test.YtojalheohpkdoaaDoorRbgP
import Derived.Test.YtojalheohpkdoaaDoorGrP
import Derived.Test.YtojalheohpkdoaaDoorTyVt
namespace Go.Proofs.YtojalheohpkdoaaDoor
open Go.RowKit
set_option linter.unusedVariables false

def argB (n : Int) : Bool := decide (0 ≤ n) && decide (n ≤ 9999)
def statB (s : Int) : Bool := decide (s = 0) || decide (s = 1) || decide (s = 2)
def argsB (l : List Int) (s : Int) : Bool := l.all argB && (decide (l.length = 0) || (decide (s = 2) && decide (l.length ≤ 4)))
def partB (p : List Int) (s : Int) : Bool := decide (p.length = 0) || (decide (s = 0) && rbgB p)
def bellB (b : Int) : Bool := decide (0 ≤ b) && decide (b ≤ 1000000)
def vtB (d : shVt.D) : Bool := gokB d.1 && (statB d.2.1 && (argsB d.2.2.1 d.2.1 && (partB d.2.2.2.1 d.2.1 && bellB d.2.2.2.2.1)))

theorem argsB_some {l : List Int} {s : Int} {i : Nat} (hi : i < l.length) (h : argB (l[i]?.getD 0) = false) : argsB l s = false := by
  have h1 : l.all argB = false := by
    rw [List.all_eq_false]
    refine ⟨l[i], List.getElem_mem hi, ?_⟩
    simpa [hi] using h
  unfold argsB
  rw [h1]; rfl
theorem argsB_all {l : List Int} {s : Int} (h : ∀ i, i < l.length → argB (l[i]?.getD 0) = true) : argsB l s = (decide (l.length = 0) || (decide (s = 2) && decide (l.length ≤ 4))) := by
  have h1 : l.all argB = true := by
    rw [List.all_eq_true]
    intro x hx
    obtain ⟨i, hi, rfl⟩ := List.getElem_of_mem hx
    simpa [hi] using h i hi
  unfold argsB
  rw [h1]; rfl

theorem args_long {l : List Int} {s : Int} (h : 4 < l.length) : argsB l s = false := by
  unfold argsB
  rw [decide_eq_false (by omega), decide_eq_false (p := l.length ≤ 4) (by omega), Bool.and_false]; simp
theorem vt_no {d : shVt.D} (h : gokB d.1 = false ∨ statB d.2.1 = false ∨ argsB d.2.2.1 d.2.1 = false ∨ partB d.2.2.2.1 d.2.1 = false ∨ bellB d.2.2.2.2.1 = false) : vtB d = false := by
  unfold vtB
  rcases h with h | h | h | h | h <;> simp [h]
theorem vt_yes {d : shVt.D} (h1 : gokB d.1 = true) (h2 : statB d.2.1 = true) (h3 : argsB d.2.2.1 d.2.1 = true) (h4 : partB d.2.2.2.1 d.2.1 = true) (h5 : bellB d.2.2.2.2.1 = true) : vtB d = true := by
  unfold vtB; rw [h1, h2, h3, h4, h5]; rfl
theorem vt_parts {d : shVt.D} (h : vtB d = true) : gokB d.1 = true ∧ statB d.2.1 = true ∧ argsB d.2.2.1 d.2.1 = true ∧ partB d.2.2.2.1 d.2.1 = true ∧ bellB d.2.2.2.2.1 = true := by
  unfold vtB at h
  simp only [Bool.and_eq_true] at h
  exact h
theorem stat_yes {s : Int} (h : 0 ≤ s ∧ s ≤ 2) : statB s = true := by
  have : s = 0 ∨ s = 1 ∨ s = 2 := by omega
  rcases this with rfl | rfl | rfl <;> rfl
theorem stat_no {s : Int} (h : s < 0 ∨ 2 < s) : statB s = false := by
  unfold statB
  rw [decide_eq_false (by omega), decide_eq_false (by omega), decide_eq_false (by omega)]; rfl
theorem stat_bd {s : Int} (h : statB s = true) : 0 ≤ s ∧ s ≤ 2 := by
  unfold statB at h
  simp at h; omega

end Go.Proofs.YtojalheohpkdoaaDoor
