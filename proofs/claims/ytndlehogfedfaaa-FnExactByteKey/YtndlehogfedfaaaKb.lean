/-
  ByteKey of both sides: one answer (bk).
-/
import Derived.Test.YtndlehogfedfaaaKy
namespace Go.Proofs.Ytndlehogfedfaaa
open Go.RowKit
set_option linter.unusedVariables false

def bk (b : Int) : Int × Int :=
  if b < 0 ∨ b > 127 then (0, 0) else if b = 8 ∨ b = 127 then (5, 0) else if b = 9 then (6, 0) else if b = 10 ∨ b = 13 then (4, 0) else
  if b = 27 then (7, 0) else if b = 31 then (2, 95) else if 32 ≤ b then (1, b) else if 1 ≤ b ∧ b ≤ 26 then (2, b + 96) else (16, 0)

theorem bk_cases (b : Int) : ((b < 0 ∨ b > 127) ∧ bk b = (0, 0)) ∨ (32 ≤ b ∧ b ≤ 126 ∧ b ≠ 8 ∧ b ≠ 127 ∧ bk b = (1, b)) ∨
    (1 ≤ b ∧ b ≤ 26 ∧ b ≠ 8 ∧ b ≠ 9 ∧ b ≠ 10 ∧ b ≠ 13 ∧ b ≠ 127 ∧ bk b = (2, b + 96)) ∨
    b = 8 ∨ b = 127 ∨ b = 9 ∨ b = 10 ∨ b = 13 ∨ b = 27 ∨ b = 31 ∨ b = 0 ∨ b = 28 ∨ b = 29 ∨ b = 30 := by
  by_cases h : b < 0 ∨ b > 127
  · exact Or.inl ⟨h, by unfold bk; rw [if_pos h]⟩
  by_cases h2 : 32 ≤ b ∧ b ≤ 126
  · refine Or.inr (Or.inl ⟨h2.1, h2.2, by omega, by omega, ?_⟩)
    unfold bk
    rw [if_neg h, if_neg (by omega), if_neg (by omega), if_neg (by omega), if_neg (by omega), if_neg (by omega), if_pos h2.1]
  by_cases h3 : 1 ≤ b ∧ b ≤ 26 ∧ b ≠ 8 ∧ b ≠ 9 ∧ b ≠ 10 ∧ b ≠ 13
  · refine Or.inr (Or.inr (Or.inl ⟨h3.1, h3.2.1, h3.2.2.1, h3.2.2.2.1, h3.2.2.2.2.1, h3.2.2.2.2.2, by omega, ?_⟩))
    unfold bk
    rw [if_neg h, if_neg (by omega), if_neg (by omega), if_neg (by omega), if_neg (by omega), if_neg (by omega), if_neg (by omega), if_pos (by omega)]
  · have : b = 8 ∨ b = 127 ∨ b = 9 ∨ b = 10 ∨ b = 13 ∨ b = 27 ∨ b = 31 ∨ b = 0 ∨ b = 28 ∨ b = 29 ∨ b = 30 := by omega
    exact Or.inr (Or.inr (Or.inr this))

set_option maxRecDepth 100000 in
set_option maxHeartbeats 4000000 in
theorem specBk_any (b : Int) (hb : (Lit.int .i64 b).wf = true) (w : World) :
    Calls Try.prog 8 #[.int .i64 b] w fun e w' => e = .returned (.agg #[.int .i64 (bk b).1, .int .i64 (bk b).2]) ∧ Below w.heap.size w w' := by
  rcases bk_cases b with ⟨h | h, e⟩ | ⟨h1, h2, h3, h4, e⟩ | ⟨h1, h2, h3, h4, h5, h6, h7, e⟩ | h | h | h | h | h | h | h | h | h | h | h
  all_goals
    (try rw [e])
    (try subst h)
    go_enter Try.func8, Try.ntmps8
    go_wp2
    all_goals (first | (go_returns; exact ⟨rfl, (Below.refl _ _).alloc (Nat.le_refl _) _⟩) | (exfalso; simp only [beq_iff_eq] at *; omega))

set_option maxRecDepth 100000 in
set_option maxHeartbeats 4000000 in
theorem implBk_any (b : Int) (hb : (Lit.int .i64 b).wf = true) (w : World) :
    Calls Try.prog 9 #[.int .i64 b] w fun e w' => e = .returned (.agg #[.int .i64 (bk b).1, .int .i64 (bk b).2]) ∧ Below w.heap.size w w' := by
  rcases bk_cases b with ⟨h | h, e⟩ | ⟨h1, h2, h3, h4, e⟩ | ⟨h1, h2, h3, h4, h5, h6, h7, e⟩ | h | h | h | h | h | h | h | h | h | h | h
  all_goals
    (try rw [e])
    (try subst h)
    go_enter Try.func9, Try.ntmps9
    go_wp2
    go_returns
    exact ⟨rfl, (Below.refl _ _).alloc (Nat.le_refl _) _⟩

end Go.Proofs.Ytndlehogfedfaaa
