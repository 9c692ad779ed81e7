/-
  l03TurnOk, l03Turn of the model.
-/
import Derived.Test.YtkjnbjohicgooaaGreatDirS
namespace Go.Proofs.YtkjnbjohicgooaaGreat
open Go.RowKit
set_option linter.unusedVariables false

/-- The word of l03TurnOk. -/
def turnB (l : List LinkD) (t : TurnD) : Bool :=
  nameB t.2.1 && (if t.1 = 1 then t.2.2.1.toList.isEmpty && decide (0 < t.2.2.2.1) && !decide (0 < findL l t.2.1) else if t.1 = 5 then nameB t.2.2.1 && !(t.2.2.1.toList == t.2.1.toList) && decide (t.2.2.2.1 = 0) && decide (0 < findL l t.2.1) else if t.1 = 6 then t.2.2.1.toList.isEmpty && decide (t.2.2.2.1 = 0) && decide (0 < findL l t.2.1) else false)

theorem noText_list : noText.toList = [] := by rw [ByteArray.toList_eq]; rfl

theorem empty_iff (s : ByteArray) : s.toList = [] ↔ s = noText :=
  ⟨fun h => toList_inj (h.trans noText_list.symm), fun h => by rw [h, noText_list]⟩

theorem turnB_iff (l : List LinkD) (t : TurnD) : turnB l t = true ↔ turnOkL l t := by
  obtain ⟨k, x1, x2, x3, u⟩ := t
  have hne : ((x2.toList == x1.toList) = false) ↔ x2 ≠ x1 := ⟨fun h e => by subst e; simp at h, fun h => str_neq h⟩
  unfold turnB turnOkL
  by_cases k1 : k = 1
  · subst k1; simp [nameB_iff, empty_iff, and_assoc]
  · by_cases k5 : k = 5
    · subst k5
      simp [nameB_iff, hne, and_assoc]
    · by_cases k6 : k = 6
      · subst k6; simp [nameB_iff, empty_iff, and_assoc]
      · simp [k1, k5, k6]
theorem turnB_true {l : List LinkD} {t : TurnD} (h : turnOkL l t) : turnB l t = true := (turnB_iff l t).2 h
theorem turnB_false {l : List LinkD} {t : TurnD} (h : ¬ turnOkL l t) : turnB l t = false := by
  cases e : turnB l t
  · rfl
  · exact absurd ((turnB_iff l t).1 e) h

theorem turnB_eq (l : List LinkD) (k : Int) (x1 x2 : ByteArray) (x3 f : Int) (hf : findL l x1 = f) : turnB l (k, x1, x2, x3, ()) =
    (nameB x1 && (if k = 1 then x2.toList.isEmpty && decide (0 < x3) && !decide (0 < f) else if k = 5 then nameB x2 && !(x2.toList == x1.toList) && decide (x3 = 0) && decide (0 < f) else if k = 6 then x2.toList.isEmpty && decide (x3 = 0) && decide (0 < f) else false)) := by
  subst hf; rfl

set_option maxRecDepth 100000 in
set_option maxHeartbeats 2000000 in
theorem specTurnOk1 (a : Option Addr) (n cap : Nat) (l : List LinkD) (x1 x2 : ByteArray) (x3 : Int) (w : World) (hr : Reads (.sl shLink) w [.slice a n cap] l) (h1 : x1.size ≤ maxLen) (h2 : x2.size ≤ maxLen) :
    Calls Tryz.prog 84 #[.slice a n cap, .agg #[.int .i64 1, .string x1, .string x2, .int .i64 x3]] w fun e w' => e = .returned (.bool (turnB l (1, x1, x2, x3, ()))) ∧ Below w.heap.size w w' := by
  obtain ⟨f, hf⟩ : ∃ f, findL l x1 = f := ⟨_, rfl⟩
  have E : Hid (turnB l (1, x1, x2, x3, ()) = _) := turnB_eq l 1 x1 x2 x3 f hf
  have qF : Hid (∀ w', Below w.heap.size w w' → Calls Tryz.prog 59 #[.slice a n cap, .string x1] w' fun e w'' => e = .returned (.int .i64 f) ∧ Below w'.heap.size w' w'') := fun w' hb => by
    have := specFind_ok a n cap l x1 w' (hr.later hb); rw [hf] at this; exact this
  have bA : Below w.heap.size w (w.alloc (.cells #[.int .i64 1, .string x1, .string x2, .int .i64 x3] 95)) := (Below.refl _ _).alloc (Nat.le_refl _) _
  obtain ⟨W, hW⟩ : ∃ W, W = w.alloc (.cells #[.int .i64 1, .string x1, .string x2, .int .i64 x3] 95) := ⟨_, rfl⟩
  have hbx : W.heap[w.heap.size]? = some (.cells #[.int .i64 1, .string x1, .string x2, .int .i64 x3] 95 (0, 0)) := by rw [hW]; exact heap_alloc_new w _
  have zW : W.heap.size = w.heap.size + 1 := by rw [hW]; simp
  have HW : Hid (W = w.alloc (.cells #[.int .i64 1, .string x1, .string x2, .int .i64 x3] 95)) := hW
  rw [← hW] at bA
  have HB : Hid (∀ w', Below W.heap.size W w' → w'.cell? ⟨w.heap.size, 0, none⟩ = some (.int .i64 1) ∧ w'.cell? ⟨w.heap.size, 1, none⟩ = some (.string x1) ∧ w'.cell? ⟨w.heap.size, 2, none⟩ = some (.string x2) ∧ w'.cell? ⟨w.heap.size, 3, none⟩ = some (.int .i64 x3)) := fun w' h => by
    have i := (h.block _ (by omega)).trans hbx
    exact ⟨box_cell i rfl, box_cell i rfl, box_cell i rfl, box_cell i rfl⟩
  clear hW hbx hf hr
  go_enter Tryz.func84, Tryz.ntmps84
  go_wp2_with fail
  rw [← HW.out]
  refine (specNameB _ _ h1).mono ?_
  rintro e w1 ⟨rfl, rfl⟩
  cases hN : nameB x1 with
  | false =>
    have EE : Hid (turnB l (1, x1, x2, x3, ()) = false) := by show _ = _; rw [E.out, hN]; rfl
    clear E
    go_wp2
    go_ret
    exact ⟨by rw [EE.out]; rfl, bA⟩
  | true =>
    obtain ⟨c0, c1, c2, c3⟩ := HB.out w1 (Below.refl _ _)
    go_wp2_with fail
    refine (qF.out _ bA).mono ?_
    rintro e w2 ⟨rfl, hb2⟩
    have b2 := bA.trans (hb2.mono bA.size)
    obtain ⟨d0, d1, d2, d3⟩ := HB.out w2 hb2
    clear c0 c1 c2 c3 hb2
    go_wp2_with (go_at_call 83; refine (specNameB _ _ h2).mono ?_; rintro e w9 ⟨rfl, rfl⟩)
    all_goals (go_ret; refine ⟨?_, b2⟩)
    all_goals (rw [E.out]; clear E; show Ending.returned (Value.bool _) = Ending.returned (Value.bool _))
    all_goals (first | (simp_all; done) | (simp_all; omega))

set_option maxRecDepth 100000 in
set_option maxHeartbeats 2000000 in
theorem specTurnOk5 (a : Option Addr) (n cap : Nat) (l : List LinkD) (x1 x2 : ByteArray) (x3 : Int) (w : World) (hr : Reads (.sl shLink) w [.slice a n cap] l) (h1 : x1.size ≤ maxLen) (h2 : x2.size ≤ maxLen) :
    Calls Tryz.prog 84 #[.slice a n cap, .agg #[.int .i64 5, .string x1, .string x2, .int .i64 x3]] w fun e w' => e = .returned (.bool (turnB l (5, x1, x2, x3, ()))) ∧ Below w.heap.size w w' := by
  obtain ⟨f, hf⟩ : ∃ f, findL l x1 = f := ⟨_, rfl⟩
  have E : Hid (turnB l (5, x1, x2, x3, ()) = _) := turnB_eq l 5 x1 x2 x3 f hf
  have qF : Hid (∀ w', Below w.heap.size w w' → Calls Tryz.prog 59 #[.slice a n cap, .string x1] w' fun e w'' => e = .returned (.int .i64 f) ∧ Below w'.heap.size w' w'') := fun w' hb => by
    have := specFind_ok a n cap l x1 w' (hr.later hb); rw [hf] at this; exact this
  have bA : Below w.heap.size w (w.alloc (.cells #[.int .i64 5, .string x1, .string x2, .int .i64 x3] 95)) := (Below.refl _ _).alloc (Nat.le_refl _) _
  obtain ⟨W, hW⟩ : ∃ W, W = w.alloc (.cells #[.int .i64 5, .string x1, .string x2, .int .i64 x3] 95) := ⟨_, rfl⟩
  have hbx : W.heap[w.heap.size]? = some (.cells #[.int .i64 5, .string x1, .string x2, .int .i64 x3] 95 (0, 0)) := by rw [hW]; exact heap_alloc_new w _
  have zW : W.heap.size = w.heap.size + 1 := by rw [hW]; simp
  have HW : Hid (W = w.alloc (.cells #[.int .i64 5, .string x1, .string x2, .int .i64 x3] 95)) := hW
  rw [← hW] at bA
  have HB : Hid (∀ w', Below W.heap.size W w' → w'.cell? ⟨w.heap.size, 0, none⟩ = some (.int .i64 5) ∧ w'.cell? ⟨w.heap.size, 1, none⟩ = some (.string x1) ∧ w'.cell? ⟨w.heap.size, 2, none⟩ = some (.string x2) ∧ w'.cell? ⟨w.heap.size, 3, none⟩ = some (.int .i64 x3)) := fun w' h => by
    have i := (h.block _ (by omega)).trans hbx
    exact ⟨box_cell i rfl, box_cell i rfl, box_cell i rfl, box_cell i rfl⟩
  clear hW hbx hf hr
  go_enter Tryz.func84, Tryz.ntmps84
  go_wp2_with fail
  rw [← HW.out]
  refine (specNameB _ _ h1).mono ?_
  rintro e w1 ⟨rfl, rfl⟩
  cases hN : nameB x1 with
  | false =>
    have EE : Hid (turnB l (5, x1, x2, x3, ()) = false) := by show _ = _; rw [E.out, hN]; rfl
    clear E
    go_wp2
    go_ret
    exact ⟨by rw [EE.out]; rfl, bA⟩
  | true =>
    obtain ⟨c0, c1, c2, c3⟩ := HB.out w1 (Below.refl _ _)
    go_wp2_with fail
    refine (qF.out _ bA).mono ?_
    rintro e w2 ⟨rfl, hb2⟩
    have b2 := bA.trans (hb2.mono bA.size)
    obtain ⟨d0, d1, d2, d3⟩ := HB.out w2 hb2
    clear c0 c1 c2 c3 hb2
    go_wp2_with (go_at_call 83; refine (specNameB _ _ h2).mono ?_; rintro e w9 ⟨rfl, rfl⟩)
    all_goals (go_ret; refine ⟨?_, b2⟩)
    all_goals (rw [E.out]; clear E; show Ending.returned (Value.bool _) = Ending.returned (Value.bool _))
    all_goals (first | (simp_all; done) | (simp_all; omega))

set_option maxRecDepth 100000 in
set_option maxHeartbeats 2000000 in
theorem specTurnOk6 (a : Option Addr) (n cap : Nat) (l : List LinkD) (x1 x2 : ByteArray) (x3 : Int) (w : World) (hr : Reads (.sl shLink) w [.slice a n cap] l) (h1 : x1.size ≤ maxLen) (h2 : x2.size ≤ maxLen) :
    Calls Tryz.prog 84 #[.slice a n cap, .agg #[.int .i64 6, .string x1, .string x2, .int .i64 x3]] w fun e w' => e = .returned (.bool (turnB l (6, x1, x2, x3, ()))) ∧ Below w.heap.size w w' := by
  obtain ⟨f, hf⟩ : ∃ f, findL l x1 = f := ⟨_, rfl⟩
  have E : Hid (turnB l (6, x1, x2, x3, ()) = _) := turnB_eq l 6 x1 x2 x3 f hf
  have qF : Hid (∀ w', Below w.heap.size w w' → Calls Tryz.prog 59 #[.slice a n cap, .string x1] w' fun e w'' => e = .returned (.int .i64 f) ∧ Below w'.heap.size w' w'') := fun w' hb => by
    have := specFind_ok a n cap l x1 w' (hr.later hb); rw [hf] at this; exact this
  have bA : Below w.heap.size w (w.alloc (.cells #[.int .i64 6, .string x1, .string x2, .int .i64 x3] 95)) := (Below.refl _ _).alloc (Nat.le_refl _) _
  obtain ⟨W, hW⟩ : ∃ W, W = w.alloc (.cells #[.int .i64 6, .string x1, .string x2, .int .i64 x3] 95) := ⟨_, rfl⟩
  have hbx : W.heap[w.heap.size]? = some (.cells #[.int .i64 6, .string x1, .string x2, .int .i64 x3] 95 (0, 0)) := by rw [hW]; exact heap_alloc_new w _
  have zW : W.heap.size = w.heap.size + 1 := by rw [hW]; simp
  have HW : Hid (W = w.alloc (.cells #[.int .i64 6, .string x1, .string x2, .int .i64 x3] 95)) := hW
  rw [← hW] at bA
  have HB : Hid (∀ w', Below W.heap.size W w' → w'.cell? ⟨w.heap.size, 0, none⟩ = some (.int .i64 6) ∧ w'.cell? ⟨w.heap.size, 1, none⟩ = some (.string x1) ∧ w'.cell? ⟨w.heap.size, 2, none⟩ = some (.string x2) ∧ w'.cell? ⟨w.heap.size, 3, none⟩ = some (.int .i64 x3)) := fun w' h => by
    have i := (h.block _ (by omega)).trans hbx
    exact ⟨box_cell i rfl, box_cell i rfl, box_cell i rfl, box_cell i rfl⟩
  clear hW hbx hf hr
  go_enter Tryz.func84, Tryz.ntmps84
  go_wp2_with fail
  rw [← HW.out]
  refine (specNameB _ _ h1).mono ?_
  rintro e w1 ⟨rfl, rfl⟩
  cases hN : nameB x1 with
  | false =>
    have EE : Hid (turnB l (6, x1, x2, x3, ()) = false) := by show _ = _; rw [E.out, hN]; rfl
    clear E
    go_wp2
    go_ret
    exact ⟨by rw [EE.out]; rfl, bA⟩
  | true =>
    obtain ⟨c0, c1, c2, c3⟩ := HB.out w1 (Below.refl _ _)
    go_wp2_with fail
    refine (qF.out _ bA).mono ?_
    rintro e w2 ⟨rfl, hb2⟩
    have b2 := bA.trans (hb2.mono bA.size)
    obtain ⟨d0, d1, d2, d3⟩ := HB.out w2 hb2
    clear c0 c1 c2 c3 hb2
    go_wp2_with (go_at_call 83; refine (specNameB _ _ h2).mono ?_; rintro e w9 ⟨rfl, rfl⟩)
    all_goals (go_ret; refine ⟨?_, b2⟩)
    all_goals (rw [E.out]; clear E; show Ending.returned (Value.bool _) = Ending.returned (Value.bool _))
    all_goals (first | (simp_all; done) | (simp_all; omega))

set_option maxRecDepth 100000 in
set_option maxHeartbeats 2000000 in
theorem specTurnOkN (k : Int) (a : Option Addr) (n cap : Nat) (l : List LinkD) (x1 x2 : ByteArray) (x3 : Int) (w : World) (hr : Reads (.sl shLink) w [.slice a n cap] l) (h1 : x1.size ≤ maxLen) (h2 : x2.size ≤ maxLen) (k1 : k ≠ 1) (k5 : k ≠ 5) (k6 : k ≠ 6) :
    Calls Tryz.prog 84 #[.slice a n cap, .agg #[.int .i64 k, .string x1, .string x2, .int .i64 x3]] w fun e w' => e = .returned (.bool (turnB l (k, x1, x2, x3, ()))) ∧ Below w.heap.size w w' := by
  obtain ⟨f, hf⟩ : ∃ f, findL l x1 = f := ⟨_, rfl⟩
  have E : Hid (turnB l (k, x1, x2, x3, ()) = _) := turnB_eq l k x1 x2 x3 f hf
  have qF : Hid (∀ w', Below w.heap.size w w' → Calls Tryz.prog 59 #[.slice a n cap, .string x1] w' fun e w'' => e = .returned (.int .i64 f) ∧ Below w'.heap.size w' w'') := fun w' hb => by
    have := specFind_ok a n cap l x1 w' (hr.later hb); rw [hf] at this; exact this
  have bA : Below w.heap.size w (w.alloc (.cells #[.int .i64 k, .string x1, .string x2, .int .i64 x3] 95)) := (Below.refl _ _).alloc (Nat.le_refl _) _
  obtain ⟨W, hW⟩ : ∃ W, W = w.alloc (.cells #[.int .i64 k, .string x1, .string x2, .int .i64 x3] 95) := ⟨_, rfl⟩
  have hbx : W.heap[w.heap.size]? = some (.cells #[.int .i64 k, .string x1, .string x2, .int .i64 x3] 95 (0, 0)) := by rw [hW]; exact heap_alloc_new w _
  have zW : W.heap.size = w.heap.size + 1 := by rw [hW]; simp
  have HW : Hid (W = w.alloc (.cells #[.int .i64 k, .string x1, .string x2, .int .i64 x3] 95)) := hW
  rw [← hW] at bA
  have HB : Hid (∀ w', Below W.heap.size W w' → w'.cell? ⟨w.heap.size, 0, none⟩ = some (.int .i64 k) ∧ w'.cell? ⟨w.heap.size, 1, none⟩ = some (.string x1) ∧ w'.cell? ⟨w.heap.size, 2, none⟩ = some (.string x2) ∧ w'.cell? ⟨w.heap.size, 3, none⟩ = some (.int .i64 x3)) := fun w' h => by
    have i := (h.block _ (by omega)).trans hbx
    exact ⟨box_cell i rfl, box_cell i rfl, box_cell i rfl, box_cell i rfl⟩
  clear hW hbx hf hr
  have q1 : (k == 1) = false := by simp [k1]
  have q5 : (k == 5) = false := by simp [k5]
  have q6 : (k == 6) = false := by simp [k6]
  go_enter Tryz.func84, Tryz.ntmps84
  go_wp2_with fail
  rw [← HW.out]
  refine (specNameB _ _ h1).mono ?_
  rintro e w1 ⟨rfl, rfl⟩
  cases hN : nameB x1 with
  | false =>
    have EE : Hid (turnB l (k, x1, x2, x3, ()) = false) := by show _ = _; rw [E.out, hN]; rfl
    clear E
    go_wp2
    go_ret
    exact ⟨by rw [EE.out]; rfl, bA⟩
  | true =>
    obtain ⟨c0, c1, c2, c3⟩ := HB.out w1 (Below.refl _ _)
    go_wp2_with fail
    refine (qF.out _ bA).mono ?_
    rintro e w2 ⟨rfl, hb2⟩
    have b2 := bA.trans (hb2.mono bA.size)
    obtain ⟨d0, d1, d2, d3⟩ := HB.out w2 hb2
    clear c0 c1 c2 c3 hb2
    go_wp2_with (go_at_call 83; refine (specNameB _ _ h2).mono ?_; rintro e w9 ⟨rfl, rfl⟩)
    all_goals (go_ret; refine ⟨?_, b2⟩)
    all_goals (rw [E.out]; clear E; show Ending.returned (Value.bool _) = Ending.returned (Value.bool _))
    all_goals (first | (simp_all; done) | (simp_all; omega))

theorem specTurnOk_any (a : Option Addr) (n cap : Nat) (l : List LinkD) (k : Int) (x1 x2 : ByteArray) (x3 : Int) (w : World) (hr : Reads (.sl shLink) w [.slice a n cap] l) (h1 : x1.size ≤ maxLen) (h2 : x2.size ≤ maxLen) :
    Calls Tryz.prog 84 #[.slice a n cap, .agg #[.int .i64 k, .string x1, .string x2, .int .i64 x3]] w fun e w' => e = .returned (.bool (turnB l (k, x1, x2, x3, ()))) ∧ Below w.heap.size w w' := by
  by_cases k1 : k = 1
  · subst k1; exact specTurnOk1 a n cap l x1 x2 x3 w hr h1 h2
  by_cases k5 : k = 5
  · subst k5; exact specTurnOk5 a n cap l x1 x2 x3 w hr h1 h2
  by_cases k6 : k = 6
  · subst k6; exact specTurnOk6 a n cap l x1 x2 x3 w hr h1 h2
  exact specTurnOkN k a n cap l x1 x2 x3 w hr h1 h2 k1 k5 k6

set_option maxRecDepth 100000 in
set_option maxHeartbeats 2000000 in
theorem specTurn1 (a : Option Addr) (n cap : Nat) (l : List LinkD) (x1 x2 : ByteArray) (x3 : Int) (w : World) (hr : Reads (.sl shLink) w [.slice a n cap] l) (h1 : x1.size ≤ maxLen) (h2 : x2.size ≤ maxLen) (hn : n ≤ 1000000) :
    Calls Tryz.prog 85 #[.slice a n cap, .agg #[.int .i64 1, .string x1, .string x2, .int .i64 x3]] w fun e w' => ∃ g c, e = .returned (.slice (some ⟨g, 0, none⟩) (withL l x1 x3).length c) ∧ Own (.sl shLink) w' w.heap.size [.slice (some ⟨g, 0, none⟩) (withL l x1 x3).length c] (withL l x1 x3) [g] ∧ Below w.heap.size w w' := by
  have hl : List.length (α := LinkD) l = n := (reads_len hr).1
  obtain ⟨f, hf⟩ : ∃ f, findL l x1 = f := ⟨_, rfl⟩
  have qW : Hid (∀ w', Below w.heap.size w w' → Calls Tryz.prog 118 #[.slice a n cap, .string x1, .int .i64 x3] w' fun e w'' => ∃ g c, e = .returned (.slice (some ⟨g, 0, none⟩) (withL l x1 x3).length c) ∧ Own (.sl shLink) w'' w'.heap.size [.slice (some ⟨g, 0, none⟩) (withL l x1 x3).length c] (withL l x1 x3) [g] ∧ Below w'.heap.size w' w'') :=
    fun w' hb => specWith_ok a n cap l x1 x3 w' (hr.later hb) h1 (by omega)
  have qF : Hid (∀ w', Below w.heap.size w w' → Calls Tryz.prog 59 #[.slice a n cap, .string x1] w' fun e w'' => e = .returned (.int .i64 f) ∧ Below w'.heap.size w' w'') := fun w' hb => by
    have := specFind_ok a n cap l x1 w' (hr.later hb); rw [hf] at this; exact this
  have qL : Hid (∀ w', Below w.heap.size w w' → Calls Tryz.prog 119 #[.slice a n cap, .string x1] w' fun e w'' => ∃ g c, e = .returned (.slice (some ⟨g, 0, none⟩) (lessL l x1).length c) ∧ Own (.sl shLink) w'' w'.heap.size [.slice (some ⟨g, 0, none⟩) (lessL l x1).length c] (lessL l x1) [g] ∧ Below w'.heap.size w' w'') :=
    fun w' hb => specLess_ok a n cap l x1 w' (hr.later hb) (by omega)
  have bA : Below w.heap.size w (w.alloc (.cells #[.int .i64 1, .string x1, .string x2, .int .i64 x3] 95)) := (Below.refl _ _).alloc (Nat.le_refl _) _
  obtain ⟨W, hW⟩ : ∃ W, W = w.alloc (.cells #[.int .i64 1, .string x1, .string x2, .int .i64 x3] 95) := ⟨_, rfl⟩
  have hbx : W.heap[w.heap.size]? = some (.cells #[.int .i64 1, .string x1, .string x2, .int .i64 x3] 95 (0, 0)) := by rw [hW]; exact heap_alloc_new w _
  have zW : W.heap.size = w.heap.size + 1 := by rw [hW]; simp
  have HW : Hid (W = w.alloc (.cells #[.int .i64 1, .string x1, .string x2, .int .i64 x3] 95)) := hW
  rw [← hW] at bA
  have HB : Hid (∀ w', Below W.heap.size W w' → w'.cell? ⟨w.heap.size, 0, none⟩ = some (.int .i64 1) ∧ w'.cell? ⟨w.heap.size, 1, none⟩ = some (.string x1) ∧ w'.cell? ⟨w.heap.size, 2, none⟩ = some (.string x2) ∧ w'.cell? ⟨w.heap.size, 3, none⟩ = some (.int .i64 x3)) := fun w' h => by
    have i := (h.block _ (by omega)).trans hbx
    exact ⟨box_cell i rfl, box_cell i rfl, box_cell i rfl, box_cell i rfl⟩
  have HF : Hid (findL l x1 = f ∧ List.length (α := LinkD) l = n) := ⟨hf, hl⟩
  clear hW hbx hf hr hl
  clear qF qL
  go_enter Tryz.func85, Tryz.ntmps85
  go_wp2_with fail
  rw [← HW.out]
  refine (qW.out _ bA).mono ?_
  rintro e w1 ⟨g, c, rfl, o1, hb1⟩
  have b1 := bA.trans (hb1.mono bA.size)
  have HO : Hid _ := o1
  clear hb1 o1
  go_wp2
  go_ret
  exact ⟨g, c, rfl, Own.base (s := .sl shLink) HO.out bA.size, b1⟩

set_option maxRecDepth 100000 in
set_option maxHeartbeats 2000000 in
theorem specTurnN (k : Int) (a : Option Addr) (n cap : Nat) (l : List LinkD) (x1 x2 : ByteArray) (x3 : Int) (w : World) (hr : Reads (.sl shLink) w [.slice a n cap] l) (h1 : x1.size ≤ maxLen) (h2 : x2.size ≤ maxLen) (hn : n ≤ 1000000) (k1 : k ≠ 1) (k5 : k ≠ 5) :
    Calls Tryz.prog 85 #[.slice a n cap, .agg #[.int .i64 k, .string x1, .string x2, .int .i64 x3]] w fun e w' => ∃ g c, e = .returned (.slice (some ⟨g, 0, none⟩) (lessL l x1).length c) ∧ Own (.sl shLink) w' w.heap.size [.slice (some ⟨g, 0, none⟩) (lessL l x1).length c] (lessL l x1) [g] ∧ Below w.heap.size w w' := by
  have hl : List.length (α := LinkD) l = n := (reads_len hr).1
  obtain ⟨f, hf⟩ : ∃ f, findL l x1 = f := ⟨_, rfl⟩
  have qW : Hid (∀ w', Below w.heap.size w w' → Calls Tryz.prog 118 #[.slice a n cap, .string x1, .int .i64 x3] w' fun e w'' => ∃ g c, e = .returned (.slice (some ⟨g, 0, none⟩) (withL l x1 x3).length c) ∧ Own (.sl shLink) w'' w'.heap.size [.slice (some ⟨g, 0, none⟩) (withL l x1 x3).length c] (withL l x1 x3) [g] ∧ Below w'.heap.size w' w'') :=
    fun w' hb => specWith_ok a n cap l x1 x3 w' (hr.later hb) h1 (by omega)
  have qF : Hid (∀ w', Below w.heap.size w w' → Calls Tryz.prog 59 #[.slice a n cap, .string x1] w' fun e w'' => e = .returned (.int .i64 f) ∧ Below w'.heap.size w' w'') := fun w' hb => by
    have := specFind_ok a n cap l x1 w' (hr.later hb); rw [hf] at this; exact this
  have qL : Hid (∀ w', Below w.heap.size w w' → Calls Tryz.prog 119 #[.slice a n cap, .string x1] w' fun e w'' => ∃ g c, e = .returned (.slice (some ⟨g, 0, none⟩) (lessL l x1).length c) ∧ Own (.sl shLink) w'' w'.heap.size [.slice (some ⟨g, 0, none⟩) (lessL l x1).length c] (lessL l x1) [g] ∧ Below w'.heap.size w' w'') :=
    fun w' hb => specLess_ok a n cap l x1 w' (hr.later hb) (by omega)
  have bA : Below w.heap.size w (w.alloc (.cells #[.int .i64 k, .string x1, .string x2, .int .i64 x3] 95)) := (Below.refl _ _).alloc (Nat.le_refl _) _
  obtain ⟨W, hW⟩ : ∃ W, W = w.alloc (.cells #[.int .i64 k, .string x1, .string x2, .int .i64 x3] 95) := ⟨_, rfl⟩
  have hbx : W.heap[w.heap.size]? = some (.cells #[.int .i64 k, .string x1, .string x2, .int .i64 x3] 95 (0, 0)) := by rw [hW]; exact heap_alloc_new w _
  have zW : W.heap.size = w.heap.size + 1 := by rw [hW]; simp
  have HW : Hid (W = w.alloc (.cells #[.int .i64 k, .string x1, .string x2, .int .i64 x3] 95)) := hW
  rw [← hW] at bA
  have HB : Hid (∀ w', Below W.heap.size W w' → w'.cell? ⟨w.heap.size, 0, none⟩ = some (.int .i64 k) ∧ w'.cell? ⟨w.heap.size, 1, none⟩ = some (.string x1) ∧ w'.cell? ⟨w.heap.size, 2, none⟩ = some (.string x2) ∧ w'.cell? ⟨w.heap.size, 3, none⟩ = some (.int .i64 x3)) := fun w' h => by
    have i := (h.block _ (by omega)).trans hbx
    exact ⟨box_cell i rfl, box_cell i rfl, box_cell i rfl, box_cell i rfl⟩
  have HF : Hid (findL l x1 = f ∧ List.length (α := LinkD) l = n) := ⟨hf, hl⟩
  clear hW hbx hf hr hl
  clear qW
  have q1 : (k == 1) = false := by simp [k1]
  have q5 : (k == 5) = false := by simp [k5]
  go_enter Tryz.func85, Tryz.ntmps85
  go_wp2_with fail
  rw [← HW.out]
  refine (qF.out _ bA).mono ?_
  rintro e w1 ⟨rfl, hb1⟩
  have b1 := bA.trans (hb1.mono bA.size)
  have z1 := hb1.size
  have H1 : Hid (Below W.heap.size W w1) := hb1
  obtain ⟨c0, c1, c2, c3⟩ := HB.out w1 hb1
  clear hb1
  go_wp2_with fail
  refine (qL.out _ b1).mono ?_
  rintro e w2 ⟨g, c, rfl, o2, hb2⟩
  have b2 := b1.trans (hb2.mono b1.size)
  obtain ⟨d0, d1, d2, d3⟩ := HB.out w2 (H1.out.trans (hb2.mono z1))
  have HO : Hid _ := o2
  clear hb2 o2 c0 c1 c2 c3
  go_wp2
  go_ret
  exact ⟨g, c, rfl, Own.base (s := .sl shLink) HO.out b1.size, b2⟩

set_option maxRecDepth 100000 in
set_option maxHeartbeats 2000000 in
theorem specTurn5 (a : Option Addr) (n cap : Nat) (l : List LinkD) (x1 x2 : ByteArray) (x3 : Int) (w : World) (hr : Reads (.sl shLink) w [.slice a n cap] l) (h1 : x1.size ≤ maxLen) (h2 : x2.size ≤ maxLen) (hn : n ≤ 1000000) :
    Calls Tryz.prog 85 #[.slice a n cap, .agg #[.int .i64 5, .string x1, .string x2, .int .i64 x3]] w fun e w' => ∃ g c, e = .returned (.slice (some ⟨g, 0, none⟩) (withL (lessL (lessL l x1) x2) x2 (findL l x1)).length c) ∧ Own (.sl shLink) w' w.heap.size [.slice (some ⟨g, 0, none⟩) (withL (lessL (lessL l x1) x2) x2 (findL l x1)).length c] (withL (lessL (lessL l x1) x2) x2 (findL l x1)) [g] ∧ Below w.heap.size w w' := by
  have hl : List.length (α := LinkD) l = n := (reads_len hr).1
  obtain ⟨f, hf⟩ : ∃ f, findL l x1 = f := ⟨_, rfl⟩
  have qW : Hid (∀ w', Below w.heap.size w w' → Calls Tryz.prog 118 #[.slice a n cap, .string x1, .int .i64 x3] w' fun e w'' => ∃ g c, e = .returned (.slice (some ⟨g, 0, none⟩) (withL l x1 x3).length c) ∧ Own (.sl shLink) w'' w'.heap.size [.slice (some ⟨g, 0, none⟩) (withL l x1 x3).length c] (withL l x1 x3) [g] ∧ Below w'.heap.size w' w'') :=
    fun w' hb => specWith_ok a n cap l x1 x3 w' (hr.later hb) h1 (by omega)
  have qF : Hid (∀ w', Below w.heap.size w w' → Calls Tryz.prog 59 #[.slice a n cap, .string x1] w' fun e w'' => e = .returned (.int .i64 f) ∧ Below w'.heap.size w' w'') := fun w' hb => by
    have := specFind_ok a n cap l x1 w' (hr.later hb); rw [hf] at this; exact this
  have qL : Hid (∀ w', Below w.heap.size w w' → Calls Tryz.prog 119 #[.slice a n cap, .string x1] w' fun e w'' => ∃ g c, e = .returned (.slice (some ⟨g, 0, none⟩) (lessL l x1).length c) ∧ Own (.sl shLink) w'' w'.heap.size [.slice (some ⟨g, 0, none⟩) (lessL l x1).length c] (lessL l x1) [g] ∧ Below w'.heap.size w' w'') :=
    fun w' hb => specLess_ok a n cap l x1 w' (hr.later hb) (by omega)
  have bA : Below w.heap.size w (w.alloc (.cells #[.int .i64 5, .string x1, .string x2, .int .i64 x3] 95)) := (Below.refl _ _).alloc (Nat.le_refl _) _
  obtain ⟨W, hW⟩ : ∃ W, W = w.alloc (.cells #[.int .i64 5, .string x1, .string x2, .int .i64 x3] 95) := ⟨_, rfl⟩
  have hbx : W.heap[w.heap.size]? = some (.cells #[.int .i64 5, .string x1, .string x2, .int .i64 x3] 95 (0, 0)) := by rw [hW]; exact heap_alloc_new w _
  have zW : W.heap.size = w.heap.size + 1 := by rw [hW]; simp
  have HW : Hid (W = w.alloc (.cells #[.int .i64 5, .string x1, .string x2, .int .i64 x3] 95)) := hW
  rw [← hW] at bA
  have HB : Hid (∀ w', Below W.heap.size W w' → w'.cell? ⟨w.heap.size, 0, none⟩ = some (.int .i64 5) ∧ w'.cell? ⟨w.heap.size, 1, none⟩ = some (.string x1) ∧ w'.cell? ⟨w.heap.size, 2, none⟩ = some (.string x2) ∧ w'.cell? ⟨w.heap.size, 3, none⟩ = some (.int .i64 x3)) := fun w' h => by
    have i := (h.block _ (by omega)).trans hbx
    exact ⟨box_cell i rfl, box_cell i rfl, box_cell i rfl, box_cell i rfl⟩
  have HF : Hid (findL l x1 = f ∧ List.length (α := LinkD) l = n) := ⟨hf, hl⟩
  clear hW hbx hf hr hl
  clear qW
  go_enter Tryz.func85, Tryz.ntmps85
  go_wp2_with fail
  rw [← HW.out]
  refine (qF.out _ bA).mono ?_
  rintro e w1 ⟨rfl, hb1⟩
  have b1 := bA.trans (hb1.mono bA.size)
  have z1 := hb1.size
  have H1 : Hid (Below W.heap.size W w1) := hb1
  obtain ⟨c0, c1, c2, c3⟩ := HB.out w1 hb1
  clear hb1
  go_wp2_with fail
  refine (qL.out _ b1).mono ?_
  rintro e w2 ⟨g, c, rfl, o2, hb2⟩
  have b2 := b1.trans (hb2.mono b1.size)
  have z2 := hb2.size
  obtain ⟨d0, d1, d2, d3⟩ := HB.out w2 (H1.out.trans (hb2.mono z1))
  obtain ⟨m, hm⟩ : ∃ m, m = (lessL l x1).length := ⟨_, rfl⟩
  have hmn : m ≤ n := by rw [hm, ← HF.out.2]; exact lessL_len _ _
  have q6 : Hid (∀ w', Below w2.heap.size w2 w' → Calls Tryz.prog 119 #[.slice (some ⟨g, 0, none⟩) m c, .string x2] w' fun e w'' => ∃ g6 c6, e = .returned (.slice (some ⟨g6, 0, none⟩) (lessL (lessL l x1) x2).length c6) ∧ Own (.sl shLink) w'' w'.heap.size [.slice (some ⟨g6, 0, none⟩) (lessL (lessL l x1) x2).length c6] (lessL (lessL l x1) x2) [g6] ∧ Below w'.heap.size w' w'') :=
    fun w' hb => by rw [hm]; exact specLess_ok _ _ c (lessL l x1) x2 w' (o2.later hb).reads (by omega)
  obtain ⟨p, hp⟩ : ∃ p, p = (lessL (lessL l x1) x2).length := ⟨_, rfl⟩
  have hpm : p ≤ m := by rw [hp, hm]; exact lessL_len _ _
  have q7 : Hid (∀ w' g6 c6, Reads (.sl shLink) w' [.slice (some ⟨g6, 0, none⟩) p c6] (lessL (lessL l x1) x2) → Calls Tryz.prog 118 #[.slice (some ⟨g6, 0, none⟩) p c6, .string x2, .int .i64 f] w' fun e w'' => ∃ g7 c7, e = .returned (.slice (some ⟨g7, 0, none⟩) (withL (lessL (lessL l x1) x2) x2 f).length c7) ∧ Own (.sl shLink) w'' w'.heap.size [.slice (some ⟨g7, 0, none⟩) (withL (lessL (lessL l x1) x2) x2 f).length c7] (withL (lessL (lessL l x1) x2) x2 f) [g7] ∧ Below w'.heap.size w' w'') :=
    fun w' g6 c6 hr6 => specWith_ok _ p c6 _ x2 f w' hr6 h2 (by omega)
  rw [← hm]
  rw [← hp] at q6
  have hbb : Below w2.heap.size w2 w2 := Below.refl _ _
  have zlt : w.heap.size < w2.heap.size := by omega
  clear hb2 o2 c0 c1 c2 c3 hm hp
  go_wp2_with fail
  go_region_held (fun w' => w'.cell? ⟨w.heap.size, 0, none⟩ = some (.int .i64 5) ∧ w'.cell? ⟨w.heap.size, 1, none⟩ = some (.string x1) ∧ w'.cell? ⟨w.heap.size, 2, none⟩ = some (.string x2) ∧ w'.cell? ⟨w.heap.size, 3, none⟩ = some (.int .i64 x3))
    (first | go_keep | (refine ⟨?_, ?_, ?_, ?_⟩ <;> first | (refine (hb7.cell ?_).trans ?_; (have h6 := hb6.size; simp at h6 ⊢; omega); assumption) | (refine (hb6.cell ?_).trans ?_; (simp; omega); assumption)))
    (first | ((go_at_call 119; refine (q6.out _ (Below.drew hbb)).mono ?_; rintro e w6 ⟨g6, c6, rfl, o6, hb6⟩; have z0 : w6.cell? ⟨w.heap.size, 0, none⟩ = some (.int .i64 5) := (hb6.cell (p := ⟨w.heap.size, 0, none⟩) (by simp; omega)).trans d0; have z1' : w6.cell? ⟨w.heap.size, 1, none⟩ = some (.string x1) := (hb6.cell (p := ⟨w.heap.size, 1, none⟩) (by simp; omega)).trans d1; have z2' : w6.cell? ⟨w.heap.size, 2, none⟩ = some (.string x2) := (hb6.cell (p := ⟨w.heap.size, 2, none⟩) (by simp; omega)).trans d2; have z3 : w6.cell? ⟨w.heap.size, 3, none⟩ = some (.int .i64 x3) := (hb6.cell (p := ⟨w.heap.size, 3, none⟩) (by simp; omega)).trans d3)) | ((go_at_call 118; refine (q7.out _ g6 c6 o6.reads).mono ?_; rintro e w7 ⟨g7, c7, rfl, o7, hb7⟩)))
  have b6 : Below w.heap.size w w6 := b2.drew.trans (hb6.mono b2.drew.size)
  have b7 : Below w.heap.size w w7 := b6.trans (hb7.mono b6.size)
  have HO : Hid _ := o7
  clear hb6 hb7 o6 o7
  go_wp2
  go_ret
  refine ⟨g7, c7, ?_, ?_, b7⟩
  · rw [HF.out.1]; rfl
  · rw [HF.out.1]; exact Own.base (s := .sl shLink) HO.out b6.size

theorem specTurn_any (a : Option Addr) (n cap : Nat) (l : List LinkD) (k : Int) (x1 x2 : ByteArray) (x3 : Int) (w : World) (hr : Reads (.sl shLink) w [.slice a n cap] l) (h1 : x1.size ≤ maxLen) (h2 : x2.size ≤ maxLen) (hn : n ≤ 1000000) :
    Calls Tryz.prog 85 #[.slice a n cap, .agg #[.int .i64 k, .string x1, .string x2, .int .i64 x3]] w fun e w' => ∃ g c, e = .returned (.slice (some ⟨g, 0, none⟩) (turnL l (k, x1, x2, x3, ())).length c) ∧ Own (.sl shLink) w' w.heap.size [.slice (some ⟨g, 0, none⟩) (turnL l (k, x1, x2, x3, ())).length c] (turnL l (k, x1, x2, x3, ())) [g] ∧ Below w.heap.size w w' := by
  by_cases k1 : k = 1
  · subst k1
    rw [show turnL l (1, x1, x2, x3, ()) = withL l x1 x3 from rfl]
    exact specTurn1 a n cap l x1 x2 x3 w hr h1 h2 hn
  by_cases k5 : k = 5
  · subst k5
    rw [show turnL l (5, x1, x2, x3, ()) = withL (lessL (lessL l x1) x2) x2 (findL l x1) from rfl]
    exact specTurn5 a n cap l x1 x2 x3 w hr h1 h2 hn
  rw [show turnL l (k, x1, x2, x3, ()) = lessL l x1 by unfold turnL; rw [if_neg k1, if_neg k5]]
  exact specTurnN k a n cap l x1 x2 x3 w hr h1 h2 hn k1 k5

end Go.Proofs.YtkjnbjohicgooaaGreat
