/-
  ClassOf, the model's and the program's: one answer.
-/
import Derived.Test.YtofbfbandipjoabPrn
namespace Go.Proofs.Ytofbfbandipjoab
open Go.RowKit
set_option linter.unusedVariables false

def cls (r : Int) : Int :=
  if r = 9 ∨ r = 10 ∨ r = 32 then 0
  else if (97 ≤ r ∧ r ≤ 122) ∨ (65 ≤ r ∧ r ≤ 90) ∨ (48 ≤ r ∧ r ≤ 57) ∨ r = 95 ∨ (159 < r ∧ prn r = true) then 1 else 2

theorem cls_cases (r : Int) : (r = 9 ∨ r = 10 ∨ r = 32) ∨ ((97 ≤ r ∧ r ≤ 122) ∨ (65 ≤ r ∧ r ≤ 90) ∨ (48 ≤ r ∧ r ≤ 57) ∨ r = 95) ∨ (r ≤ 8 ∨ (11 ≤ r ∧ r ≤ 31) ∨ (33 ≤ r ∧ r ≤ 47) ∨ (58 ≤ r ∧ r ≤ 64) ∨ (91 ≤ r ∧ r ≤ 94) ∨ r = 96 ∨ (123 ≤ r ∧ r ≤ 159)) ∨ 160 ≤ r := by omega

set_option maxHeartbeats 2000000 in
theorem specCls_low (r : Int) (w : World) (h : (r = 9 ∨ r = 10 ∨ r = 32) ∨ ((97 ≤ r ∧ r ≤ 122) ∨ (65 ≤ r ∧ r ≤ 90) ∨ (48 ≤ r ∧ r ≤ 57) ∨ r = 95) ∨ (r ≤ 8 ∨ (11 ≤ r ∧ r ≤ 31) ∨ (33 ≤ r ∧ r ≤ 47) ∨ (58 ≤ r ∧ r ≤ 64) ∨ (91 ≤ r ∧ r ≤ 94) ∨ r = 96 ∨ (123 ≤ r ∧ r ≤ 159))) :
    Calls Try.prog 15 #[.int .i64 r] w fun e w' => e = .returned (.int .i64 (cls r)) ∧ w' = w := by
  rcases h with (h | h | h) | (h | h | h | h) | (h | h | h | h | h | h | h)
  all_goals
    try have b1 : (r == 9) = false := by simp; omega
    try have b2 : (r == 10) = false := by simp; omega
    try have b3 : (r == 32) = false := by simp; omega
    try have b4 : (r == 95) = false := by simp; omega
    first
    | (have e : cls r = 0 := by unfold cls; rw [if_pos (by omega)]
       rw [e])
    | (have e : cls r = 1 := by unfold cls; rw [if_neg (by omega), if_pos (by omega)]
       rw [e])
    | (have e : cls r = 2 := by unfold cls; rw [if_neg (by omega), if_neg (by intro q; rcases q with q | q | q | q | q <;> omega)]
       rw [e])
    clear e
    try subst h
    go_enter Try.func15, Try.ntmps15
    go_wp2
    go_ret
    exact ⟨rfl, rfl⟩

set_option maxHeartbeats 2000000 in
theorem specCls_high (r : Int) (w : World) (h : 160 ≤ r) :
    Calls Try.prog 15 #[.int .i64 r] w fun e w' => e = .returned (.int .i64 (cls r)) ∧ w' = w := by
  have b1 : (r == 9) = false := by simp; omega
  have b2 : (r == 10) = false := by simp; omega
  have b3 : (r == 32) = false := by simp; omega
  have b4 : (r == 95) = false := by simp; omega
  by_cases hp : prn r = true
  · have e : cls r = 1 := by unfold cls; rw [if_neg (by omega), if_pos (.inr (.inr (.inr (.inr ⟨by omega, hp⟩))))]
    rw [e]; clear e
    go_enter Try.func15, Try.ntmps15
    go_wp2_with fail
    refine (specPrn_any r _).mono ?_
    rintro e w1 ⟨rfl, rfl⟩
    rw [hp]
    go_wp2
    go_ret
    exact ⟨rfl, rfl⟩
  · have hp' : prn r = false := by simpa using hp
    have e : cls r = 2 := by unfold cls; rw [if_neg (by omega), if_neg (by simp [hp']; omega)]
    rw [e]; clear e
    go_enter Try.func15, Try.ntmps15
    go_wp2_with fail
    refine (specPrn_any r _).mono ?_
    rintro e w1 ⟨rfl, rfl⟩
    rw [hp']
    go_wp2
    go_ret
    exact ⟨rfl, rfl⟩

theorem specCls_any (r : Int) (w : World) :
    Calls Try.prog 15 #[.int .i64 r] w fun e w' => e = .returned (.int .i64 (cls r)) ∧ w' = w := by
  rcases cls_cases r with h | h | h | h
  · exact specCls_low r w (.inl h)
  · exact specCls_low r w (.inr (.inl h))
  · exact specCls_low r w (.inr (.inr h))
  · exact specCls_high r w h

set_option maxHeartbeats 2000000 in
theorem implCls_low (r : Int) (w : World) (h : (r = 9 ∨ r = 10 ∨ r = 32) ∨ ((97 ≤ r ∧ r ≤ 122) ∨ (65 ≤ r ∧ r ≤ 90) ∨ (48 ≤ r ∧ r ≤ 57) ∨ r = 95) ∨ (r ≤ 8 ∨ (11 ≤ r ∧ r ≤ 31) ∨ (33 ≤ r ∧ r ≤ 47) ∨ (58 ≤ r ∧ r ≤ 64) ∨ (91 ≤ r ∧ r ≤ 94) ∨ r = 96 ∨ (123 ≤ r ∧ r ≤ 159))) :
    Calls Try.prog 16 #[.int .i64 r] w fun e w' => e = .returned (.int .i64 (cls r)) ∧ w' = w := by
  rcases h with (h | h | h) | (h | h | h | h) | (h | h | h | h | h | h | h)
  all_goals
    try have b1 : (r == 9) = false := by simp; omega
    try have b2 : (r == 10) = false := by simp; omega
    try have b3 : (r == 32) = false := by simp; omega
    try have b4 : (r == 95) = false := by simp; omega
    first
    | (have e : cls r = 0 := by unfold cls; rw [if_pos (by omega)]
       rw [e])
    | (have e : cls r = 1 := by unfold cls; rw [if_neg (by omega), if_pos (by omega)]
       rw [e])
    | (have e : cls r = 2 := by unfold cls; rw [if_neg (by omega), if_neg (by intro q; rcases q with q | q | q | q | q <;> omega)]
       rw [e])
    clear e
    try subst h
    go_enter Try.func16, Try.ntmps16
    go_wp2
    go_ret
    exact ⟨rfl, rfl⟩

set_option maxHeartbeats 2000000 in
theorem implCls_high (r : Int) (w : World) (h : 160 ≤ r) :
    Calls Try.prog 16 #[.int .i64 r] w fun e w' => e = .returned (.int .i64 (cls r)) ∧ w' = w := by
  have b1 : (r == 9) = false := by simp; omega
  have b2 : (r == 10) = false := by simp; omega
  have b3 : (r == 32) = false := by simp; omega
  have b4 : (r == 95) = false := by simp; omega
  by_cases hp : prn r = true
  · have e : cls r = 1 := by unfold cls; rw [if_neg (by omega), if_pos (.inr (.inr (.inr (.inr ⟨by omega, hp⟩))))]
    rw [e]; clear e
    go_enter Try.func16, Try.ntmps16
    go_wp2_with fail
    refine (implPrn_any r _).mono ?_
    rintro e w1 ⟨rfl, rfl⟩
    rw [hp]
    go_wp2
    go_ret
    exact ⟨rfl, rfl⟩
  · have hp' : prn r = false := by simpa using hp
    have e : cls r = 2 := by unfold cls; rw [if_neg (by omega), if_neg (by simp [hp']; omega)]
    rw [e]; clear e
    go_enter Try.func16, Try.ntmps16
    go_wp2_with fail
    refine (implPrn_any r _).mono ?_
    rintro e w1 ⟨rfl, rfl⟩
    rw [hp']
    go_wp2
    go_ret
    exact ⟨rfl, rfl⟩

theorem implCls_any (r : Int) (w : World) :
    Calls Try.prog 16 #[.int .i64 r] w fun e w' => e = .returned (.int .i64 (cls r)) ∧ w' = w := by
  rcases cls_cases r with h | h | h | h
  · exact implCls_low r w (.inl h)
  · exact implCls_low r w (.inr (.inl h))
  · exact implCls_low r w (.inr (.inr h))
  · exact implCls_high r w h

theorem classOf_law (r : Int) (w : World) :
    Calls Try.prog 6 #[.int .i64 r] w fun e w' => e = .returned (.bool true) ∧ Below w.heap.size w w' := by
  have hne : ((cls r) != (cls r)) = false := by simp
  go_enter Try.func6, Try.ntmps6
  go_wp2_with fail
  refine (specCls_any r _).mono ?_
  rintro e w1 ⟨rfl, rfl⟩
  go_wp2_with fail
  refine (implCls_any r _).mono ?_
  rintro e w1 ⟨rfl, rfl⟩
  go_wp2
  go_ret
  exact ⟨rfl, Below.refl _ _⟩

end Go.Proofs.Ytofbfbandipjoab
