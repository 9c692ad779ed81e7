/-
  Keys: the form of a key (kForm), KeyOk of both sides, toKey and eqKey of the laws.
-/
import Derived.Test.YtndlehogfedfaaaDoorPrn
import Derived.Handy
namespace Go.Proofs.YtndlehogfedfaaaDoor
open Go.RowKit
set_option linter.unusedVariables false

def ctlB (r : Int) : Bool := decide (r = 95 ∨ (97 ≤ r ∧ r ≤ 122 ∧ r ≠ 104 ∧ r ≠ 105 ∧ r ≠ 106 ∧ r ≠ 109))
def kForm (k r : Int) : Int :=
  if k = 1 then (if prn r = true then 1 else 0) else if k = 2 then (if ctlB r = true then 2 else 0) else
  if k = 3 then (if 33 ≤ r ∧ r ≤ 126 then 3 else 0) else if 4 ≤ k ∧ k ≤ 16 ∧ r = 0 then 4 else 0
def kok (k r : Int) : Bool := decide (kForm k r ≠ 0)

theorem kForm1 {r : Int} : kForm 1 r = if prn r = true then 1 else 0 := rfl
theorem kForm2 {r : Int} : kForm 2 r = if ctlB r = true then 2 else 0 := rfl
theorem kForm3 {r : Int} : kForm 3 r = if 33 ≤ r ∧ r ≤ 126 then 3 else 0 := rfl
theorem kForm4 {k r : Int} (h1 : k ≠ 1) (h2 : k ≠ 2) (h3 : k ≠ 3) : kForm k r = if 4 ≤ k ∧ k ≤ 16 ∧ r = 0 then 4 else 0 := by
  unfold kForm; rw [if_neg h1, if_neg h2, if_neg h3]
theorem ctl_yes {r : Int} (h : r = 95 ∨ (97 ≤ r ∧ r ≤ 122 ∧ r ≠ 104 ∧ r ≠ 105 ∧ r ≠ 106 ∧ r ≠ 109)) : ctlB r = true := decide_eq_true h
theorem ctl_no {r : Int} (h : ¬ (r = 95 ∨ (97 ≤ r ∧ r ≤ 122 ∧ r ≠ 104 ∧ r ≠ 105 ∧ r ≠ 106 ∧ r ≠ 109))) : ctlB r = false := decide_eq_false h

theorem ctl_cases (r : Int) : (r = 95 ∧ ctlB r = true) ∨ (r = 104 ∧ ctlB r = false) ∨ (r = 105 ∧ ctlB r = false) ∨ (r = 106 ∧ ctlB r = false) ∨ (r = 109 ∧ ctlB r = false) ∨
    (r ≠ 95 ∧ r < 97 ∧ ctlB r = false) ∨ (122 < r ∧ ctlB r = false) ∨ (97 ≤ r ∧ r ≤ 122 ∧ r ≠ 95 ∧ r ≠ 104 ∧ r ≠ 105 ∧ r ≠ 106 ∧ r ≠ 109 ∧ ctlB r = true) := by
  by_cases h : r = 95 ∨ (97 ≤ r ∧ r ≤ 122 ∧ r ≠ 104 ∧ r ≠ 105 ∧ r ≠ 106 ∧ r ≠ 109)
  · have e := ctl_yes h
    by_cases h5 : r = 95
    · exact Or.inl ⟨h5, e⟩
    · have : 97 ≤ r ∧ r ≤ 122 ∧ r ≠ 104 ∧ r ≠ 105 ∧ r ≠ 106 ∧ r ≠ 109 := by rcases h with h | h; exact absurd h h5; exact h
      refine Or.inr (Or.inr (Or.inr (Or.inr (Or.inr (Or.inr (Or.inr ⟨?_, ?_, h5, ?_, ?_, ?_, ?_, e⟩)))))) <;> omega
  · have e := ctl_no h
    have : r = 104 ∨ r = 105 ∨ r = 106 ∨ r = 109 ∨ (r ≠ 95 ∧ r < 97) ∨ 122 < r := by omega
    rcases this with h | h | h | h | h | h
    · exact Or.inr (Or.inl ⟨h, e⟩)
    · exact Or.inr (Or.inr (Or.inl ⟨h, e⟩))
    · exact Or.inr (Or.inr (Or.inr (Or.inl ⟨h, e⟩)))
    · exact Or.inr (Or.inr (Or.inr (Or.inr (Or.inl ⟨h, e⟩))))
    · exact Or.inr (Or.inr (Or.inr (Or.inr (Or.inr (Or.inl ⟨h.1, h.2, e⟩)))))
    · exact Or.inr (Or.inr (Or.inr (Or.inr (Or.inr (Or.inr (Or.inl ⟨h, e⟩))))))

theorem implCtl_any (r : Int) (w : World) :
    Calls Tryd.prog 30 #[.int .i64 r] w fun e w' => e = .returned (.bool (ctlB r)) ∧ w' = w := by
  rcases ctl_cases r with ⟨h, e⟩ | ⟨h, e⟩ | ⟨h, e⟩ | ⟨h, e⟩ | ⟨h, e⟩ | ⟨h, h2, e⟩ | ⟨h, e⟩ | ⟨h1, h2, h3, h4, h5, h6, h7, e⟩
  all_goals
    rw [e]
    clear e
    (try subst h)
    go_enter Tryd.func30, Tryd.ntmps30
    go_wp2
    go_ret
    first | exact ⟨rfl, rfl⟩ | exact ⟨by congr 2; simp; omega, rfl⟩

set_option maxRecDepth 100000 in
set_option maxHeartbeats 4000000 in
theorem implForm_any (k r : Int) (w : World) :
    Calls Tryd.prog 21 #[.agg #[.int .i64 k, .int .i64 r]] w fun e w' => e = .returned (.int .i64 (kForm k r)) ∧ Below w.heap.size w w' := by
  by_cases k1 : k = 1
  · subst k1
    rw [kForm1]
    have qp : Hid (∀ w', Calls Tryd.prog 29 #[.int .i64 r] w' fun e w'' => e = .returned (.bool (prn r)) ∧ w'' = w') := fun w' => implPrn_any r w'
    cases hp : prn r
    all_goals
      rw [hp] at qp
      go_enter Tryd.func21, Tryd.ntmps21
      go_wp2_with fail
      refine (qp.out _).mono ?_
      rintro e w1 ⟨rfl, rfl⟩
      go_wp2
      go_ret
      exact ⟨rfl, (Below.refl _ _).alloc (Nat.le_refl _) _⟩
  by_cases k2 : k = 2
  · subst k2
    rw [kForm2]
    have qp : Hid (∀ w', Calls Tryd.prog 30 #[.int .i64 r] w' fun e w'' => e = .returned (.bool (ctlB r)) ∧ w'' = w') := fun w' => implCtl_any r w'
    cases hp : ctlB r
    all_goals
      rw [hp] at qp
      go_enter Tryd.func21, Tryd.ntmps21
      go_wp2_with fail
      refine (qp.out _).mono ?_
      rintro e w1 ⟨rfl, rfl⟩
      go_wp2
      go_ret
      exact ⟨rfl, (Below.refl _ _).alloc (Nat.le_refl _) _⟩
  by_cases k3 : k = 3
  · subst k3
    rw [kForm3]
    have : r < 33 ∨ (33 ≤ r ∧ r ≤ 126) ∨ 126 < r := by omega
    rcases this with h | h | h
    · rw [if_neg (by omega)]
      have h' : ¬ (r > 32) := by omega
      go_enter Tryd.func21, Tryd.ntmps21
      go_wp2
      go_ret
      exact ⟨rfl, (Below.refl _ _).alloc (Nat.le_refl _) _⟩
    · rw [if_pos h]
      go_enter Tryd.func21, Tryd.ntmps21
      go_wp2
      go_ret
      exact ⟨rfl, (Below.refl _ _).alloc (Nat.le_refl _) _⟩
    · rw [if_neg (by omega)]
      go_enter Tryd.func21, Tryd.ntmps21
      go_wp2
      go_ret
      exact ⟨rfl, (Below.refl _ _).alloc (Nat.le_refl _) _⟩
  rw [kForm4 k1 k2 k3]
  have : k < 4 ∨ 16 < k ∨ (4 ≤ k ∧ k ≤ 16) := by omega
  rcases this with h | h | h
  · rw [if_neg (by omega)]
    go_enter Tryd.func21, Tryd.ntmps21
    go_wp2
    go_ret
    exact ⟨rfl, (Below.refl _ _).alloc (Nat.le_refl _) _⟩
  · rw [if_neg (by omega)]
    go_enter Tryd.func21, Tryd.ntmps21
    go_wp2
    go_ret
    exact ⟨rfl, (Below.refl _ _).alloc (Nat.le_refl _) _⟩
  · obtain ⟨h1, h2⟩ := h
    by_cases h0 : r = 0
    · subst h0
      rw [if_pos ⟨h1, h2, rfl⟩]
      go_enter Tryd.func21, Tryd.ntmps21
      go_wp2
      go_ret
      exact ⟨rfl, (Below.refl _ _).alloc (Nat.le_refl _) _⟩
    · rw [if_neg (fun h => h0 h.2.2)]
      go_enter Tryd.func21, Tryd.ntmps21
      go_wp2
      go_ret
      exact ⟨rfl, (Below.refl _ _).alloc (Nat.le_refl _) _⟩

theorem implKok_any (k r : Int) (w : World) :
    Calls Tryd.prog 25 #[.agg #[.int .i64 k, .int .i64 r]] w fun e w' => e = .returned (.bool (kok k r)) ∧ Below w.heap.size w w' := by
  have qf : Hid (∀ w', Calls Tryd.prog 21 #[.agg #[.int .i64 k, .int .i64 r]] w' fun e w'' => e = .returned (.int .i64 (kForm k r)) ∧ Below w'.heap.size w' w'') := fun w' => implForm_any k r w'
  unfold kok
  by_cases hz : kForm k r = 0
  · rw [hz] at qf ⊢
    go_enter Tryd.func25, Tryd.ntmps25
    go_wp2_with fail
    refine (qf.out _).mono ?_
    rintro e w1 ⟨rfl, hb⟩
    go_wp2
    go_ret
    exact ⟨rfl, ((Below.refl _ _).alloc (Nat.le_refl _) _).trans (hb.mono (by simp))⟩
  · have e : decide (kForm k r ≠ 0) = true := decide_eq_true hz
    rw [e]
    go_enter Tryd.func25, Tryd.ntmps25
    go_wp2_with fail
    refine (qf.out _).mono ?_
    rintro e w1 ⟨rfl, hb⟩
    go_wp2
    go_ret
    exact ⟨by congr 2; simp [hz], ((Below.refl _ _).alloc (Nat.le_refl _) _).trans (hb.mono (by simp))⟩

set_option maxRecDepth 100000 in
set_option maxHeartbeats 4000000 in
theorem specKok_any (k r : Int) (w : World) :
    Calls Tryd.prog 17 #[.agg #[.int .i64 k, .int .i64 r]] w fun e w' => e = .returned (.bool (kok k r)) ∧ Below w.heap.size w w' := by
  by_cases k1 : k = 1
  · subst k1
    have qp : Hid (∀ w', Calls Tryd.prog 28 #[.int .i64 r] w' fun e w'' => e = .returned (.bool (prn r)) ∧ w'' = w') := fun w' => specPrn_any r w'
    have e : kok 1 r = prn r := by unfold kok; rw [kForm1]; cases prn r <;> rfl
    rw [e]
    go_enter Tryd.func17, Tryd.ntmps17
    go_wp2_with fail
    refine (qp.out _).mono ?_
    rintro e w1 ⟨rfl, rfl⟩
    go_wp2
    go_ret
    first | exact ⟨rfl, (Below.refl _ _).alloc (Nat.le_refl _) _⟩ | exact ⟨by congr 2; simp; omega, (Below.refl _ _).alloc (Nat.le_refl _) _⟩
  by_cases k2 : k = 2
  · subst k2
    have e : kok 2 r = ctlB r := by unfold kok; rw [kForm2]; cases ctlB r <;> rfl
    rw [e]
    rcases ctl_cases r with ⟨h, e⟩ | ⟨h, e⟩ | ⟨h, e⟩ | ⟨h, e⟩ | ⟨h, e⟩ | ⟨h, h2, e⟩ | ⟨h, e⟩ | ⟨h1, h2, h3, h4, h5, h6, h7, e⟩
    all_goals
      rw [e]
      clear e
      (try subst h)
      go_enter Tryd.func17, Tryd.ntmps17
      go_wp2
      go_ret
      first | exact ⟨rfl, (Below.refl _ _).alloc (Nat.le_refl _) _⟩ | exact ⟨by congr 2; simp; omega, (Below.refl _ _).alloc (Nat.le_refl _) _⟩
  by_cases k3 : k = 3
  · subst k3
    have : r < 33 ∨ (33 ≤ r ∧ r ≤ 126) ∨ 126 < r := by omega
    rcases this with h | h | h
    · have e : kok 3 r = false := by unfold kok; rw [kForm3, if_neg (by omega)]; rfl
      rw [e]
      go_enter Tryd.func17, Tryd.ntmps17
      go_wp2
      go_ret
      first | exact ⟨rfl, (Below.refl _ _).alloc (Nat.le_refl _) _⟩ | exact ⟨by congr 2; simp; omega, (Below.refl _ _).alloc (Nat.le_refl _) _⟩
    · have e : kok 3 r = true := by unfold kok; rw [kForm3, if_pos h]; rfl
      rw [e]
      go_enter Tryd.func17, Tryd.ntmps17
      go_wp2
      go_ret
      first | exact ⟨rfl, (Below.refl _ _).alloc (Nat.le_refl _) _⟩ | exact ⟨by congr 2; simp; omega, (Below.refl _ _).alloc (Nat.le_refl _) _⟩
    · have e : kok 3 r = false := by unfold kok; rw [kForm3, if_neg (by omega)]; rfl
      rw [e]
      go_enter Tryd.func17, Tryd.ntmps17
      go_wp2
      go_ret
      first | exact ⟨rfl, (Below.refl _ _).alloc (Nat.le_refl _) _⟩ | exact ⟨by congr 2; simp; omega, (Below.refl _ _).alloc (Nat.le_refl _) _⟩
  have E : kok k r = decide (4 ≤ k ∧ k ≤ 16 ∧ r = 0) := by
    unfold kok; rw [kForm4 k1 k2 k3]
    by_cases h : 4 ≤ k ∧ k ≤ 16 ∧ r = 0
    · rw [if_pos h, decide_eq_true h]; rfl
    · rw [if_neg h, decide_eq_false h]; rfl
  rw [E]
  have : k < 4 ∨ 16 < k ∨ (4 ≤ k ∧ k ≤ 16) := by omega
  rcases this with h | h | h
  · rw [decide_eq_false (by omega)]
    go_enter Tryd.func17, Tryd.ntmps17
    go_wp2
    go_ret
    first | exact ⟨rfl, (Below.refl _ _).alloc (Nat.le_refl _) _⟩ | exact ⟨by congr 2; simp; omega, (Below.refl _ _).alloc (Nat.le_refl _) _⟩
  · rw [decide_eq_false (by omega)]
    go_enter Tryd.func17, Tryd.ntmps17
    go_wp2
    go_ret
    first | exact ⟨rfl, (Below.refl _ _).alloc (Nat.le_refl _) _⟩ | exact ⟨by congr 2; simp; omega, (Below.refl _ _).alloc (Nat.le_refl _) _⟩
  · obtain ⟨h1, h2⟩ := h
    by_cases h0 : r = 0
    · subst h0
      rw [decide_eq_true ⟨h1, h2, rfl⟩]
      go_enter Tryd.func17, Tryd.ntmps17
      go_wp2
      go_ret
      first | exact ⟨rfl, (Below.refl _ _).alloc (Nat.le_refl _) _⟩ | exact ⟨by congr 2; simp; omega, (Below.refl _ _).alloc (Nat.le_refl _) _⟩
    · rw [decide_eq_false (fun h => h0 h.2.2)]
      go_enter Tryd.func17, Tryd.ntmps17
      go_wp2
      go_ret
      exact ⟨by congr 2; simp [h0], (Below.refl _ _).alloc (Nat.le_refl _) _⟩

set_option maxHeartbeats 1000000 in
theorem toKey_c (k r : Int) (w : World) :
    Calls Tryd.prog 7 #[.agg #[.int .i64 k, .int .i64 r]] w fun e w' => e = .returned (.agg #[.int .i64 k, .int .i64 r]) ∧ Below w.heap.size w w' := by
  go_enter Tryd.func7, Tryd.ntmps7
  go_wp2
  go_returns
  exact ⟨rfl, (((Below.refl _ _).alloc (Nat.le_refl _) _).alloc (by simp) _).alloc (by simp; omega) _⟩

theorem eqKey_c (k r k2 r2 : Int) (w : World) :
    Calls Tryd.prog 11 #[.agg #[.int .i64 k, .int .i64 r], .agg #[.int .i64 k2, .int .i64 r2]] w fun e w' => e = .returned (.bool (decide (k = k2 ∧ r = r2))) ∧ Below w.heap.size w w' := by
  by_cases h1 : k = k2
  · subst h1
    by_cases h2 : r = r2
    · subst h2
      rw [decide_eq_true ⟨rfl, rfl⟩]
      go_enter Tryd.func11, Tryd.ntmps11
      go_wp2
      go_ret
      exact ⟨rfl, ((Below.refl _ _).alloc (Nat.le_refl _) _).alloc (by simp) _⟩
    · rw [decide_eq_false (fun h => h2 h.2)]
      go_enter Tryd.func11, Tryd.ntmps11
      go_wp2
      go_ret
      exact ⟨rfl, ((Below.refl _ _).alloc (Nat.le_refl _) _).alloc (by simp) _⟩
  · rw [decide_eq_false (fun h => h1 h.1)]
    go_enter Tryd.func11, Tryd.ntmps11
    go_wp2
    go_ret
    exact ⟨rfl, ((Below.refl _ _).alloc (Nat.le_refl _) _).alloc (by simp) _⟩

end Go.Proofs.YtndlehogfedfaaaDoor
