/-
  Joined: TurnS, IdsS, DUsed, DOkP, ImpA, MapO, TurnI, Plain.
-/
import Derived.Test.YtkaegbhmeonjfaaGreatJ2FnExactDiskCrash
import Derived.Maps.OwnSet
import Derived.Maps.Keyed
import Derived.WideKeyArgs
import Derived.StringKeys
import Derived.Laws.BitsAllLaws
/- TurnS: l03TurnOk, l03Turn of the model. -/
namespace Go.Proofs.YtkaegbhmeonjfaaGreat
open Go.RowKit
set_option linter.unusedVariables false
set_option maxRecDepth 100000

/-- The word of l03TurnOk. -/
def turnB (l : List LinkD) (t : TurnD) : Bool :=
  nameB t.2.1 && (if t.1 = 1 then t.2.2.1.toList.isEmpty && decide (0 < t.2.2.2.1) && !decide (0 < findL l t.2.1) else if t.1 = 5 then nameB t.2.2.1 && !(t.2.2.1.toList == t.2.1.toList) && decide (t.2.2.2.1 = 0) && decide (0 < findL l t.2.1) else if t.1 = 6 then t.2.2.1.toList.isEmpty && decide (t.2.2.2.1 = 0) && decide (0 < findL l t.2.1) else false)

theorem noText_list : noText.toList = [] := by rw [ByteArray.toList_eq]; rfl

theorem empty_iff (s : ByteArray) : s.toList = [] ↔ s = noText :=
  ⟨fun h => toList_inj (h.trans noText_list.symm), fun h => by rw [h, noText_list]⟩

theorem turnB_iff (l : List LinkD) (t : TurnD) : turnB l t = true ↔ turnOkL l t := by
  obtain ⟨k, x1, x2, x3, u⟩ := t
  have hne : ((x2.toList == x1.toList) = false) ↔ x2 ≠ x1 := ⟨fun h e => by subst e; simp at h, fun h => str_neq h⟩
  unfold turnB turnOkL
  by_cases k1 : k = 1
  · subst k1; simp [nameB_iff, empty_iff, and_assoc]
  · by_cases k5 : k = 5
    · subst k5
      simp [nameB_iff, hne, and_assoc]
    · by_cases k6 : k = 6
      · subst k6; simp [nameB_iff, empty_iff, and_assoc]
      · simp [k1, k5, k6]
theorem turnB_true {l : List LinkD} {t : TurnD} (h : turnOkL l t) : turnB l t = true := (turnB_iff l t).2 h
theorem turnB_false {l : List LinkD} {t : TurnD} (h : ¬ turnOkL l t) : turnB l t = false := by
  cases e : turnB l t
  · rfl
  · exact absurd ((turnB_iff l t).1 e) h

theorem turnB_eq (l : List LinkD) (k : Int) (x1 x2 : ByteArray) (x3 f : Int) (hf : findL l x1 = f) : turnB l (k, x1, x2, x3, ()) =
    (nameB x1 && (if k = 1 then x2.toList.isEmpty && decide (0 < x3) && !decide (0 < f) else if k = 5 then nameB x2 && !(x2.toList == x1.toList) && decide (x3 = 0) && decide (0 < f) else if k = 6 then x2.toList.isEmpty && decide (x3 = 0) && decide (0 < f) else false)) := by
  subst hf; rfl

set_option maxRecDepth 100000 in
set_option maxHeartbeats 2000000 in
theorem specTurnOk1 (a : Option Addr) (n cap : Nat) (l : List LinkD) (x1 x2 : ByteArray) (x3 : Int) (w : World) (hr : Reads (.sl shLink) w [.slice a n cap] l) (h1 : x1.size ≤ maxLen) (h2 : x2.size ≤ maxLen) :
    Calls Tryz.prog 77 #[.slice a n cap, .agg #[.int .i64 1, .string x1, .string x2, .int .i64 x3]] w fun e w' => e = .returned (.bool (turnB l (1, x1, x2, x3, ()))) ∧ Below w.heap.size w w' := by
  obtain ⟨f, hf⟩ : ∃ f, findL l x1 = f := ⟨_, rfl⟩
  have E : Hid (turnB l (1, x1, x2, x3, ()) = _) := turnB_eq l 1 x1 x2 x3 f hf
  have qF : Hid (∀ w', Below w.heap.size w w' → Calls Tryz.prog 58 #[.slice a n cap, .string x1] w' fun e w'' => e = .returned (.int .i64 f) ∧ Below w'.heap.size w' w'') := fun w' hb => by
    have := specFind_ok a n cap l x1 w' (hr.later hb); rw [hf] at this; exact this
  have bA : Below w.heap.size w (w.alloc (.cells #[.int .i64 1, .string x1, .string x2, .int .i64 x3] 93)) := (Below.refl _ _).alloc (Nat.le_refl _) _
  obtain ⟨W, hW⟩ : ∃ W, W = w.alloc (.cells #[.int .i64 1, .string x1, .string x2, .int .i64 x3] 93) := ⟨_, rfl⟩
  have hbx : W.heap[w.heap.size]? = some (.cells #[.int .i64 1, .string x1, .string x2, .int .i64 x3] 93 (0, 0)) := by rw [hW]; exact heap_alloc_new w _
  have zW : W.heap.size = w.heap.size + 1 := by rw [hW]; simp
  have HW : Hid (W = w.alloc (.cells #[.int .i64 1, .string x1, .string x2, .int .i64 x3] 93)) := hW
  rw [← hW] at bA
  have HB : Hid (∀ w', Below W.heap.size W w' → w'.cell? ⟨w.heap.size, 0, none⟩ = some (.int .i64 1) ∧ w'.cell? ⟨w.heap.size, 1, none⟩ = some (.string x1) ∧ w'.cell? ⟨w.heap.size, 2, none⟩ = some (.string x2) ∧ w'.cell? ⟨w.heap.size, 3, none⟩ = some (.int .i64 x3)) := fun w' h => by
    have i := (h.block _ (by omega)).trans hbx
    exact ⟨box_cell i rfl, box_cell i rfl, box_cell i rfl, box_cell i rfl⟩
  clear hW hbx hf hr
  go_enter Tryz.func77, Tryz.ntmps77
  go_wp2_with fail
  rw [← HW.out]
  refine (specNameB _ _ h1).mono ?_
  rintro e w1 ⟨rfl, rfl⟩
  cases hN : nameB x1 with
  | false =>
    have EE : Hid (turnB l (1, x1, x2, x3, ()) = false) := by show _ = _; rw [E.out, hN]; rfl
    clear E
    go_wp2
    go_ret
    exact ⟨by rw [EE.out]; rfl, bA⟩
  | true =>
    obtain ⟨c0, c1, c2, c3⟩ := HB.out w1 (Below.refl _ _)
    go_wp2_with fail
    refine (qF.out _ bA).mono ?_
    rintro e w2 ⟨rfl, hb2⟩
    have b2 := bA.trans (hb2.mono bA.size)
    obtain ⟨d0, d1, d2, d3⟩ := HB.out w2 hb2
    clear c0 c1 c2 c3 hb2
    go_wp2_with (go_at_call 76; refine (specNameB _ _ h2).mono ?_; rintro e w9 ⟨rfl, rfl⟩)
    all_goals (go_ret; refine ⟨?_, b2⟩)
    all_goals (rw [E.out]; clear E; show Ending.returned (Value.bool _) = Ending.returned (Value.bool _))
    all_goals (first | (simp_all; done) | (simp_all; omega))

set_option maxRecDepth 100000 in
set_option maxHeartbeats 2000000 in
theorem specTurnOk5 (a : Option Addr) (n cap : Nat) (l : List LinkD) (x1 x2 : ByteArray) (x3 : Int) (w : World) (hr : Reads (.sl shLink) w [.slice a n cap] l) (h1 : x1.size ≤ maxLen) (h2 : x2.size ≤ maxLen) :
    Calls Tryz.prog 77 #[.slice a n cap, .agg #[.int .i64 5, .string x1, .string x2, .int .i64 x3]] w fun e w' => e = .returned (.bool (turnB l (5, x1, x2, x3, ()))) ∧ Below w.heap.size w w' := by
  obtain ⟨f, hf⟩ : ∃ f, findL l x1 = f := ⟨_, rfl⟩
  have E : Hid (turnB l (5, x1, x2, x3, ()) = _) := turnB_eq l 5 x1 x2 x3 f hf
  have qF : Hid (∀ w', Below w.heap.size w w' → Calls Tryz.prog 58 #[.slice a n cap, .string x1] w' fun e w'' => e = .returned (.int .i64 f) ∧ Below w'.heap.size w' w'') := fun w' hb => by
    have := specFind_ok a n cap l x1 w' (hr.later hb); rw [hf] at this; exact this
  have bA : Below w.heap.size w (w.alloc (.cells #[.int .i64 5, .string x1, .string x2, .int .i64 x3] 93)) := (Below.refl _ _).alloc (Nat.le_refl _) _
  obtain ⟨W, hW⟩ : ∃ W, W = w.alloc (.cells #[.int .i64 5, .string x1, .string x2, .int .i64 x3] 93) := ⟨_, rfl⟩
  have hbx : W.heap[w.heap.size]? = some (.cells #[.int .i64 5, .string x1, .string x2, .int .i64 x3] 93 (0, 0)) := by rw [hW]; exact heap_alloc_new w _
  have zW : W.heap.size = w.heap.size + 1 := by rw [hW]; simp
  have HW : Hid (W = w.alloc (.cells #[.int .i64 5, .string x1, .string x2, .int .i64 x3] 93)) := hW
  rw [← hW] at bA
  have HB : Hid (∀ w', Below W.heap.size W w' → w'.cell? ⟨w.heap.size, 0, none⟩ = some (.int .i64 5) ∧ w'.cell? ⟨w.heap.size, 1, none⟩ = some (.string x1) ∧ w'.cell? ⟨w.heap.size, 2, none⟩ = some (.string x2) ∧ w'.cell? ⟨w.heap.size, 3, none⟩ = some (.int .i64 x3)) := fun w' h => by
    have i := (h.block _ (by omega)).trans hbx
    exact ⟨box_cell i rfl, box_cell i rfl, box_cell i rfl, box_cell i rfl⟩
  clear hW hbx hf hr
  go_enter Tryz.func77, Tryz.ntmps77
  go_wp2_with fail
  rw [← HW.out]
  refine (specNameB _ _ h1).mono ?_
  rintro e w1 ⟨rfl, rfl⟩
  cases hN : nameB x1 with
  | false =>
    have EE : Hid (turnB l (5, x1, x2, x3, ()) = false) := by show _ = _; rw [E.out, hN]; rfl
    clear E
    go_wp2
    go_ret
    exact ⟨by rw [EE.out]; rfl, bA⟩
  | true =>
    obtain ⟨c0, c1, c2, c3⟩ := HB.out w1 (Below.refl _ _)
    go_wp2_with fail
    refine (qF.out _ bA).mono ?_
    rintro e w2 ⟨rfl, hb2⟩
    have b2 := bA.trans (hb2.mono bA.size)
    obtain ⟨d0, d1, d2, d3⟩ := HB.out w2 hb2
    clear c0 c1 c2 c3 hb2
    go_wp2_with (go_at_call 76; refine (specNameB _ _ h2).mono ?_; rintro e w9 ⟨rfl, rfl⟩)
    all_goals (go_ret; refine ⟨?_, b2⟩)
    all_goals (rw [E.out]; clear E; show Ending.returned (Value.bool _) = Ending.returned (Value.bool _))
    all_goals (first | (simp_all; done) | (simp_all; omega))

set_option maxRecDepth 100000 in
set_option maxHeartbeats 2000000 in
theorem specTurnOk6 (a : Option Addr) (n cap : Nat) (l : List LinkD) (x1 x2 : ByteArray) (x3 : Int) (w : World) (hr : Reads (.sl shLink) w [.slice a n cap] l) (h1 : x1.size ≤ maxLen) (h2 : x2.size ≤ maxLen) :
    Calls Tryz.prog 77 #[.slice a n cap, .agg #[.int .i64 6, .string x1, .string x2, .int .i64 x3]] w fun e w' => e = .returned (.bool (turnB l (6, x1, x2, x3, ()))) ∧ Below w.heap.size w w' := by
  obtain ⟨f, hf⟩ : ∃ f, findL l x1 = f := ⟨_, rfl⟩
  have E : Hid (turnB l (6, x1, x2, x3, ()) = _) := turnB_eq l 6 x1 x2 x3 f hf
  have qF : Hid (∀ w', Below w.heap.size w w' → Calls Tryz.prog 58 #[.slice a n cap, .string x1] w' fun e w'' => e = .returned (.int .i64 f) ∧ Below w'.heap.size w' w'') := fun w' hb => by
    have := specFind_ok a n cap l x1 w' (hr.later hb); rw [hf] at this; exact this
  have bA : Below w.heap.size w (w.alloc (.cells #[.int .i64 6, .string x1, .string x2, .int .i64 x3] 93)) := (Below.refl _ _).alloc (Nat.le_refl _) _
  obtain ⟨W, hW⟩ : ∃ W, W = w.alloc (.cells #[.int .i64 6, .string x1, .string x2, .int .i64 x3] 93) := ⟨_, rfl⟩
  have hbx : W.heap[w.heap.size]? = some (.cells #[.int .i64 6, .string x1, .string x2, .int .i64 x3] 93 (0, 0)) := by rw [hW]; exact heap_alloc_new w _
  have zW : W.heap.size = w.heap.size + 1 := by rw [hW]; simp
  have HW : Hid (W = w.alloc (.cells #[.int .i64 6, .string x1, .string x2, .int .i64 x3] 93)) := hW
  rw [← hW] at bA
  have HB : Hid (∀ w', Below W.heap.size W w' → w'.cell? ⟨w.heap.size, 0, none⟩ = some (.int .i64 6) ∧ w'.cell? ⟨w.heap.size, 1, none⟩ = some (.string x1) ∧ w'.cell? ⟨w.heap.size, 2, none⟩ = some (.string x2) ∧ w'.cell? ⟨w.heap.size, 3, none⟩ = some (.int .i64 x3)) := fun w' h => by
    have i := (h.block _ (by omega)).trans hbx
    exact ⟨box_cell i rfl, box_cell i rfl, box_cell i rfl, box_cell i rfl⟩
  clear hW hbx hf hr
  go_enter Tryz.func77, Tryz.ntmps77
  go_wp2_with fail
  rw [← HW.out]
  refine (specNameB _ _ h1).mono ?_
  rintro e w1 ⟨rfl, rfl⟩
  cases hN : nameB x1 with
  | false =>
    have EE : Hid (turnB l (6, x1, x2, x3, ()) = false) := by show _ = _; rw [E.out, hN]; rfl
    clear E
    go_wp2
    go_ret
    exact ⟨by rw [EE.out]; rfl, bA⟩
  | true =>
    obtain ⟨c0, c1, c2, c3⟩ := HB.out w1 (Below.refl _ _)
    go_wp2_with fail
    refine (qF.out _ bA).mono ?_
    rintro e w2 ⟨rfl, hb2⟩
    have b2 := bA.trans (hb2.mono bA.size)
    obtain ⟨d0, d1, d2, d3⟩ := HB.out w2 hb2
    clear c0 c1 c2 c3 hb2
    go_wp2_with (go_at_call 76; refine (specNameB _ _ h2).mono ?_; rintro e w9 ⟨rfl, rfl⟩)
    all_goals (go_ret; refine ⟨?_, b2⟩)
    all_goals (rw [E.out]; clear E; show Ending.returned (Value.bool _) = Ending.returned (Value.bool _))
    all_goals (first | (simp_all; done) | (simp_all; omega))

set_option maxRecDepth 100000 in
set_option maxHeartbeats 2000000 in
theorem specTurnOkN (k : Int) (a : Option Addr) (n cap : Nat) (l : List LinkD) (x1 x2 : ByteArray) (x3 : Int) (w : World) (hr : Reads (.sl shLink) w [.slice a n cap] l) (h1 : x1.size ≤ maxLen) (h2 : x2.size ≤ maxLen) (k1 : k ≠ 1) (k5 : k ≠ 5) (k6 : k ≠ 6) :
    Calls Tryz.prog 77 #[.slice a n cap, .agg #[.int .i64 k, .string x1, .string x2, .int .i64 x3]] w fun e w' => e = .returned (.bool (turnB l (k, x1, x2, x3, ()))) ∧ Below w.heap.size w w' := by
  obtain ⟨f, hf⟩ : ∃ f, findL l x1 = f := ⟨_, rfl⟩
  have E : Hid (turnB l (k, x1, x2, x3, ()) = _) := turnB_eq l k x1 x2 x3 f hf
  have qF : Hid (∀ w', Below w.heap.size w w' → Calls Tryz.prog 58 #[.slice a n cap, .string x1] w' fun e w'' => e = .returned (.int .i64 f) ∧ Below w'.heap.size w' w'') := fun w' hb => by
    have := specFind_ok a n cap l x1 w' (hr.later hb); rw [hf] at this; exact this
  have bA : Below w.heap.size w (w.alloc (.cells #[.int .i64 k, .string x1, .string x2, .int .i64 x3] 93)) := (Below.refl _ _).alloc (Nat.le_refl _) _
  obtain ⟨W, hW⟩ : ∃ W, W = w.alloc (.cells #[.int .i64 k, .string x1, .string x2, .int .i64 x3] 93) := ⟨_, rfl⟩
  have hbx : W.heap[w.heap.size]? = some (.cells #[.int .i64 k, .string x1, .string x2, .int .i64 x3] 93 (0, 0)) := by rw [hW]; exact heap_alloc_new w _
  have zW : W.heap.size = w.heap.size + 1 := by rw [hW]; simp
  have HW : Hid (W = w.alloc (.cells #[.int .i64 k, .string x1, .string x2, .int .i64 x3] 93)) := hW
  rw [← hW] at bA
  have HB : Hid (∀ w', Below W.heap.size W w' → w'.cell? ⟨w.heap.size, 0, none⟩ = some (.int .i64 k) ∧ w'.cell? ⟨w.heap.size, 1, none⟩ = some (.string x1) ∧ w'.cell? ⟨w.heap.size, 2, none⟩ = some (.string x2) ∧ w'.cell? ⟨w.heap.size, 3, none⟩ = some (.int .i64 x3)) := fun w' h => by
    have i := (h.block _ (by omega)).trans hbx
    exact ⟨box_cell i rfl, box_cell i rfl, box_cell i rfl, box_cell i rfl⟩
  clear hW hbx hf hr
  have q1 : (k == 1) = false := by simp [k1]
  have q5 : (k == 5) = false := by simp [k5]
  have q6 : (k == 6) = false := by simp [k6]
  go_enter Tryz.func77, Tryz.ntmps77
  go_wp2_with fail
  rw [← HW.out]
  refine (specNameB _ _ h1).mono ?_
  rintro e w1 ⟨rfl, rfl⟩
  cases hN : nameB x1 with
  | false =>
    have EE : Hid (turnB l (k, x1, x2, x3, ()) = false) := by show _ = _; rw [E.out, hN]; rfl
    clear E
    go_wp2
    go_ret
    exact ⟨by rw [EE.out]; rfl, bA⟩
  | true =>
    obtain ⟨c0, c1, c2, c3⟩ := HB.out w1 (Below.refl _ _)
    go_wp2_with fail
    refine (qF.out _ bA).mono ?_
    rintro e w2 ⟨rfl, hb2⟩
    have b2 := bA.trans (hb2.mono bA.size)
    obtain ⟨d0, d1, d2, d3⟩ := HB.out w2 hb2
    clear c0 c1 c2 c3 hb2
    go_wp2_with (go_at_call 76; refine (specNameB _ _ h2).mono ?_; rintro e w9 ⟨rfl, rfl⟩)
    all_goals (go_ret; refine ⟨?_, b2⟩)
    all_goals (rw [E.out]; clear E; show Ending.returned (Value.bool _) = Ending.returned (Value.bool _))
    all_goals (first | (simp_all; done) | (simp_all; omega))

theorem specTurnOk_any (a : Option Addr) (n cap : Nat) (l : List LinkD) (k : Int) (x1 x2 : ByteArray) (x3 : Int) (w : World) (hr : Reads (.sl shLink) w [.slice a n cap] l) (h1 : x1.size ≤ maxLen) (h2 : x2.size ≤ maxLen) :
    Calls Tryz.prog 77 #[.slice a n cap, .agg #[.int .i64 k, .string x1, .string x2, .int .i64 x3]] w fun e w' => e = .returned (.bool (turnB l (k, x1, x2, x3, ()))) ∧ Below w.heap.size w w' := by
  by_cases k1 : k = 1
  · subst k1; exact specTurnOk1 a n cap l x1 x2 x3 w hr h1 h2
  by_cases k5 : k = 5
  · subst k5; exact specTurnOk5 a n cap l x1 x2 x3 w hr h1 h2
  by_cases k6 : k = 6
  · subst k6; exact specTurnOk6 a n cap l x1 x2 x3 w hr h1 h2
  exact specTurnOkN k a n cap l x1 x2 x3 w hr h1 h2 k1 k5 k6

set_option maxRecDepth 100000 in
set_option maxHeartbeats 2000000 in
theorem specTurn1 (a : Option Addr) (n cap : Nat) (l : List LinkD) (x1 x2 : ByteArray) (x3 : Int) (w : World) (hr : Reads (.sl shLink) w [.slice a n cap] l) (h1 : x1.size ≤ maxLen) (h2 : x2.size ≤ maxLen) (hn : n ≤ 1000000) :
    Calls Tryz.prog 78 #[.slice a n cap, .agg #[.int .i64 1, .string x1, .string x2, .int .i64 x3]] w fun e w' => ∃ g c, e = .returned (.slice (some ⟨g, 0, none⟩) (withL l x1 x3).length c) ∧ Own (.sl shLink) w' w.heap.size [.slice (some ⟨g, 0, none⟩) (withL l x1 x3).length c] (withL l x1 x3) [g] ∧ Below w.heap.size w w' := by
  have hl : List.length (α := LinkD) l = n := (reads_len hr).1
  obtain ⟨f, hf⟩ : ∃ f, findL l x1 = f := ⟨_, rfl⟩
  have qW : Hid (∀ w', Below w.heap.size w w' → Calls Tryz.prog 113 #[.slice a n cap, .string x1, .int .i64 x3] w' fun e w'' => ∃ g c, e = .returned (.slice (some ⟨g, 0, none⟩) (withL l x1 x3).length c) ∧ Own (.sl shLink) w'' w'.heap.size [.slice (some ⟨g, 0, none⟩) (withL l x1 x3).length c] (withL l x1 x3) [g] ∧ Below w'.heap.size w' w'') :=
    fun w' hb => specWith_ok a n cap l x1 x3 w' (hr.later hb) h1 (by omega)
  have qF : Hid (∀ w', Below w.heap.size w w' → Calls Tryz.prog 58 #[.slice a n cap, .string x1] w' fun e w'' => e = .returned (.int .i64 f) ∧ Below w'.heap.size w' w'') := fun w' hb => by
    have := specFind_ok a n cap l x1 w' (hr.later hb); rw [hf] at this; exact this
  have qL : Hid (∀ w', Below w.heap.size w w' → Calls Tryz.prog 114 #[.slice a n cap, .string x1] w' fun e w'' => ∃ g c, e = .returned (.slice (some ⟨g, 0, none⟩) (lessL l x1).length c) ∧ Own (.sl shLink) w'' w'.heap.size [.slice (some ⟨g, 0, none⟩) (lessL l x1).length c] (lessL l x1) [g] ∧ Below w'.heap.size w' w'') :=
    fun w' hb => specLess_ok a n cap l x1 w' (hr.later hb) (by omega)
  have bA : Below w.heap.size w (w.alloc (.cells #[.int .i64 1, .string x1, .string x2, .int .i64 x3] 93)) := (Below.refl _ _).alloc (Nat.le_refl _) _
  obtain ⟨W, hW⟩ : ∃ W, W = w.alloc (.cells #[.int .i64 1, .string x1, .string x2, .int .i64 x3] 93) := ⟨_, rfl⟩
  have hbx : W.heap[w.heap.size]? = some (.cells #[.int .i64 1, .string x1, .string x2, .int .i64 x3] 93 (0, 0)) := by rw [hW]; exact heap_alloc_new w _
  have zW : W.heap.size = w.heap.size + 1 := by rw [hW]; simp
  have HW : Hid (W = w.alloc (.cells #[.int .i64 1, .string x1, .string x2, .int .i64 x3] 93)) := hW
  rw [← hW] at bA
  have HB : Hid (∀ w', Below W.heap.size W w' → w'.cell? ⟨w.heap.size, 0, none⟩ = some (.int .i64 1) ∧ w'.cell? ⟨w.heap.size, 1, none⟩ = some (.string x1) ∧ w'.cell? ⟨w.heap.size, 2, none⟩ = some (.string x2) ∧ w'.cell? ⟨w.heap.size, 3, none⟩ = some (.int .i64 x3)) := fun w' h => by
    have i := (h.block _ (by omega)).trans hbx
    exact ⟨box_cell i rfl, box_cell i rfl, box_cell i rfl, box_cell i rfl⟩
  have HF : Hid (findL l x1 = f ∧ List.length (α := LinkD) l = n) := ⟨hf, hl⟩
  clear hW hbx hf hr hl
  clear qF qL
  go_enter Tryz.func78, Tryz.ntmps78
  go_wp2_with fail
  rw [← HW.out]
  refine (qW.out _ bA).mono ?_
  rintro e w1 ⟨g, c, rfl, o1, hb1⟩
  have b1 := bA.trans (hb1.mono bA.size)
  have HO : Hid _ := o1
  clear hb1 o1
  go_wp2
  go_ret
  exact ⟨g, c, rfl, Own.base (s := .sl shLink) HO.out bA.size, b1⟩

set_option maxRecDepth 100000 in
set_option maxHeartbeats 2000000 in
theorem specTurnN (k : Int) (a : Option Addr) (n cap : Nat) (l : List LinkD) (x1 x2 : ByteArray) (x3 : Int) (w : World) (hr : Reads (.sl shLink) w [.slice a n cap] l) (h1 : x1.size ≤ maxLen) (h2 : x2.size ≤ maxLen) (hn : n ≤ 1000000) (k1 : k ≠ 1) (k5 : k ≠ 5) :
    Calls Tryz.prog 78 #[.slice a n cap, .agg #[.int .i64 k, .string x1, .string x2, .int .i64 x3]] w fun e w' => ∃ g c, e = .returned (.slice (some ⟨g, 0, none⟩) (lessL l x1).length c) ∧ Own (.sl shLink) w' w.heap.size [.slice (some ⟨g, 0, none⟩) (lessL l x1).length c] (lessL l x1) [g] ∧ Below w.heap.size w w' := by
  have hl : List.length (α := LinkD) l = n := (reads_len hr).1
  obtain ⟨f, hf⟩ : ∃ f, findL l x1 = f := ⟨_, rfl⟩
  have qW : Hid (∀ w', Below w.heap.size w w' → Calls Tryz.prog 113 #[.slice a n cap, .string x1, .int .i64 x3] w' fun e w'' => ∃ g c, e = .returned (.slice (some ⟨g, 0, none⟩) (withL l x1 x3).length c) ∧ Own (.sl shLink) w'' w'.heap.size [.slice (some ⟨g, 0, none⟩) (withL l x1 x3).length c] (withL l x1 x3) [g] ∧ Below w'.heap.size w' w'') :=
    fun w' hb => specWith_ok a n cap l x1 x3 w' (hr.later hb) h1 (by omega)
  have qF : Hid (∀ w', Below w.heap.size w w' → Calls Tryz.prog 58 #[.slice a n cap, .string x1] w' fun e w'' => e = .returned (.int .i64 f) ∧ Below w'.heap.size w' w'') := fun w' hb => by
    have := specFind_ok a n cap l x1 w' (hr.later hb); rw [hf] at this; exact this
  have qL : Hid (∀ w', Below w.heap.size w w' → Calls Tryz.prog 114 #[.slice a n cap, .string x1] w' fun e w'' => ∃ g c, e = .returned (.slice (some ⟨g, 0, none⟩) (lessL l x1).length c) ∧ Own (.sl shLink) w'' w'.heap.size [.slice (some ⟨g, 0, none⟩) (lessL l x1).length c] (lessL l x1) [g] ∧ Below w'.heap.size w' w'') :=
    fun w' hb => specLess_ok a n cap l x1 w' (hr.later hb) (by omega)
  have bA : Below w.heap.size w (w.alloc (.cells #[.int .i64 k, .string x1, .string x2, .int .i64 x3] 93)) := (Below.refl _ _).alloc (Nat.le_refl _) _
  obtain ⟨W, hW⟩ : ∃ W, W = w.alloc (.cells #[.int .i64 k, .string x1, .string x2, .int .i64 x3] 93) := ⟨_, rfl⟩
  have hbx : W.heap[w.heap.size]? = some (.cells #[.int .i64 k, .string x1, .string x2, .int .i64 x3] 93 (0, 0)) := by rw [hW]; exact heap_alloc_new w _
  have zW : W.heap.size = w.heap.size + 1 := by rw [hW]; simp
  have HW : Hid (W = w.alloc (.cells #[.int .i64 k, .string x1, .string x2, .int .i64 x3] 93)) := hW
  rw [← hW] at bA
  have HB : Hid (∀ w', Below W.heap.size W w' → w'.cell? ⟨w.heap.size, 0, none⟩ = some (.int .i64 k) ∧ w'.cell? ⟨w.heap.size, 1, none⟩ = some (.string x1) ∧ w'.cell? ⟨w.heap.size, 2, none⟩ = some (.string x2) ∧ w'.cell? ⟨w.heap.size, 3, none⟩ = some (.int .i64 x3)) := fun w' h => by
    have i := (h.block _ (by omega)).trans hbx
    exact ⟨box_cell i rfl, box_cell i rfl, box_cell i rfl, box_cell i rfl⟩
  have HF : Hid (findL l x1 = f ∧ List.length (α := LinkD) l = n) := ⟨hf, hl⟩
  clear hW hbx hf hr hl
  clear qW
  have q1 : (k == 1) = false := by simp [k1]
  have q5 : (k == 5) = false := by simp [k5]
  go_enter Tryz.func78, Tryz.ntmps78
  go_wp2_with fail
  rw [← HW.out]
  refine (qF.out _ bA).mono ?_
  rintro e w1 ⟨rfl, hb1⟩
  have b1 := bA.trans (hb1.mono bA.size)
  have z1 := hb1.size
  have H1 : Hid (Below W.heap.size W w1) := hb1
  obtain ⟨c0, c1, c2, c3⟩ := HB.out w1 hb1
  clear hb1
  go_wp2_with fail
  refine (qL.out _ b1).mono ?_
  rintro e w2 ⟨g, c, rfl, o2, hb2⟩
  have b2 := b1.trans (hb2.mono b1.size)
  obtain ⟨d0, d1, d2, d3⟩ := HB.out w2 (H1.out.trans (hb2.mono z1))
  have HO : Hid _ := o2
  clear hb2 o2 c0 c1 c2 c3
  go_wp2
  go_ret
  exact ⟨g, c, rfl, Own.base (s := .sl shLink) HO.out b1.size, b2⟩

set_option maxRecDepth 100000 in
set_option maxHeartbeats 2000000 in
theorem specTurn5 (a : Option Addr) (n cap : Nat) (l : List LinkD) (x1 x2 : ByteArray) (x3 : Int) (w : World) (hr : Reads (.sl shLink) w [.slice a n cap] l) (h1 : x1.size ≤ maxLen) (h2 : x2.size ≤ maxLen) (hn : n ≤ 1000000) :
    Calls Tryz.prog 78 #[.slice a n cap, .agg #[.int .i64 5, .string x1, .string x2, .int .i64 x3]] w fun e w' => ∃ g c, e = .returned (.slice (some ⟨g, 0, none⟩) (withL (lessL (lessL l x1) x2) x2 (findL l x1)).length c) ∧ Own (.sl shLink) w' w.heap.size [.slice (some ⟨g, 0, none⟩) (withL (lessL (lessL l x1) x2) x2 (findL l x1)).length c] (withL (lessL (lessL l x1) x2) x2 (findL l x1)) [g] ∧ Below w.heap.size w w' := by
  have hl : List.length (α := LinkD) l = n := (reads_len hr).1
  obtain ⟨f, hf⟩ : ∃ f, findL l x1 = f := ⟨_, rfl⟩
  have qW : Hid (∀ w', Below w.heap.size w w' → Calls Tryz.prog 113 #[.slice a n cap, .string x1, .int .i64 x3] w' fun e w'' => ∃ g c, e = .returned (.slice (some ⟨g, 0, none⟩) (withL l x1 x3).length c) ∧ Own (.sl shLink) w'' w'.heap.size [.slice (some ⟨g, 0, none⟩) (withL l x1 x3).length c] (withL l x1 x3) [g] ∧ Below w'.heap.size w' w'') :=
    fun w' hb => specWith_ok a n cap l x1 x3 w' (hr.later hb) h1 (by omega)
  have qF : Hid (∀ w', Below w.heap.size w w' → Calls Tryz.prog 58 #[.slice a n cap, .string x1] w' fun e w'' => e = .returned (.int .i64 f) ∧ Below w'.heap.size w' w'') := fun w' hb => by
    have := specFind_ok a n cap l x1 w' (hr.later hb); rw [hf] at this; exact this
  have qL : Hid (∀ w', Below w.heap.size w w' → Calls Tryz.prog 114 #[.slice a n cap, .string x1] w' fun e w'' => ∃ g c, e = .returned (.slice (some ⟨g, 0, none⟩) (lessL l x1).length c) ∧ Own (.sl shLink) w'' w'.heap.size [.slice (some ⟨g, 0, none⟩) (lessL l x1).length c] (lessL l x1) [g] ∧ Below w'.heap.size w' w'') :=
    fun w' hb => specLess_ok a n cap l x1 w' (hr.later hb) (by omega)
  have bA : Below w.heap.size w (w.alloc (.cells #[.int .i64 5, .string x1, .string x2, .int .i64 x3] 93)) := (Below.refl _ _).alloc (Nat.le_refl _) _
  obtain ⟨W, hW⟩ : ∃ W, W = w.alloc (.cells #[.int .i64 5, .string x1, .string x2, .int .i64 x3] 93) := ⟨_, rfl⟩
  have hbx : W.heap[w.heap.size]? = some (.cells #[.int .i64 5, .string x1, .string x2, .int .i64 x3] 93 (0, 0)) := by rw [hW]; exact heap_alloc_new w _
  have zW : W.heap.size = w.heap.size + 1 := by rw [hW]; simp
  have HW : Hid (W = w.alloc (.cells #[.int .i64 5, .string x1, .string x2, .int .i64 x3] 93)) := hW
  rw [← hW] at bA
  have HB : Hid (∀ w', Below W.heap.size W w' → w'.cell? ⟨w.heap.size, 0, none⟩ = some (.int .i64 5) ∧ w'.cell? ⟨w.heap.size, 1, none⟩ = some (.string x1) ∧ w'.cell? ⟨w.heap.size, 2, none⟩ = some (.string x2) ∧ w'.cell? ⟨w.heap.size, 3, none⟩ = some (.int .i64 x3)) := fun w' h => by
    have i := (h.block _ (by omega)).trans hbx
    exact ⟨box_cell i rfl, box_cell i rfl, box_cell i rfl, box_cell i rfl⟩
  have HF : Hid (findL l x1 = f ∧ List.length (α := LinkD) l = n) := ⟨hf, hl⟩
  clear hW hbx hf hr hl
  clear qW
  go_enter Tryz.func78, Tryz.ntmps78
  go_wp2_with fail
  rw [← HW.out]
  refine (qF.out _ bA).mono ?_
  rintro e w1 ⟨rfl, hb1⟩
  have b1 := bA.trans (hb1.mono bA.size)
  have z1 := hb1.size
  have H1 : Hid (Below W.heap.size W w1) := hb1
  obtain ⟨c0, c1, c2, c3⟩ := HB.out w1 hb1
  clear hb1
  go_wp2_with fail
  refine (qL.out _ b1).mono ?_
  rintro e w2 ⟨g, c, rfl, o2, hb2⟩
  have b2 := b1.trans (hb2.mono b1.size)
  have z2 := hb2.size
  obtain ⟨d0, d1, d2, d3⟩ := HB.out w2 (H1.out.trans (hb2.mono z1))
  obtain ⟨m, hm⟩ : ∃ m, m = (lessL l x1).length := ⟨_, rfl⟩
  have hmn : m ≤ n := by rw [hm, ← HF.out.2]; exact lessL_len _ _
  have q6 : Hid (∀ w', Below w2.heap.size w2 w' → Calls Tryz.prog 114 #[.slice (some ⟨g, 0, none⟩) m c, .string x2] w' fun e w'' => ∃ g6 c6, e = .returned (.slice (some ⟨g6, 0, none⟩) (lessL (lessL l x1) x2).length c6) ∧ Own (.sl shLink) w'' w'.heap.size [.slice (some ⟨g6, 0, none⟩) (lessL (lessL l x1) x2).length c6] (lessL (lessL l x1) x2) [g6] ∧ Below w'.heap.size w' w'') :=
    fun w' hb => by rw [hm]; exact specLess_ok _ _ c (lessL l x1) x2 w' (o2.later hb).reads (by omega)
  obtain ⟨p, hp⟩ : ∃ p, p = (lessL (lessL l x1) x2).length := ⟨_, rfl⟩
  have hpm : p ≤ m := by rw [hp, hm]; exact lessL_len _ _
  have q7 : Hid (∀ w' g6 c6, Reads (.sl shLink) w' [.slice (some ⟨g6, 0, none⟩) p c6] (lessL (lessL l x1) x2) → Calls Tryz.prog 113 #[.slice (some ⟨g6, 0, none⟩) p c6, .string x2, .int .i64 f] w' fun e w'' => ∃ g7 c7, e = .returned (.slice (some ⟨g7, 0, none⟩) (withL (lessL (lessL l x1) x2) x2 f).length c7) ∧ Own (.sl shLink) w'' w'.heap.size [.slice (some ⟨g7, 0, none⟩) (withL (lessL (lessL l x1) x2) x2 f).length c7] (withL (lessL (lessL l x1) x2) x2 f) [g7] ∧ Below w'.heap.size w' w'') :=
    fun w' g6 c6 hr6 => specWith_ok _ p c6 _ x2 f w' hr6 h2 (by omega)
  rw [← hm]
  rw [← hp] at q6
  have hbb : Below w2.heap.size w2 w2 := Below.refl _ _
  have zlt : w.heap.size < w2.heap.size := by omega
  clear hb2 o2 c0 c1 c2 c3 hm hp
  go_wp2_with fail
  go_region_held (fun w' => w'.cell? ⟨w.heap.size, 0, none⟩ = some (.int .i64 5) ∧ w'.cell? ⟨w.heap.size, 1, none⟩ = some (.string x1) ∧ w'.cell? ⟨w.heap.size, 2, none⟩ = some (.string x2) ∧ w'.cell? ⟨w.heap.size, 3, none⟩ = some (.int .i64 x3))
    (first | go_keep | (refine ⟨?_, ?_, ?_, ?_⟩ <;> first | (refine (hb7.cell ?_).trans ?_; (have h6 := hb6.size; simp at h6 ⊢; omega); assumption) | (refine (hb6.cell ?_).trans ?_; (simp; omega); assumption)))
    (first | ((go_at_call 114; refine (q6.out _ (Below.drew hbb)).mono ?_; rintro e w6 ⟨g6, c6, rfl, o6, hb6⟩; have z0 : w6.cell? ⟨w.heap.size, 0, none⟩ = some (.int .i64 5) := (hb6.cell (p := ⟨w.heap.size, 0, none⟩) (by simp; omega)).trans d0; have z1' : w6.cell? ⟨w.heap.size, 1, none⟩ = some (.string x1) := (hb6.cell (p := ⟨w.heap.size, 1, none⟩) (by simp; omega)).trans d1; have z2' : w6.cell? ⟨w.heap.size, 2, none⟩ = some (.string x2) := (hb6.cell (p := ⟨w.heap.size, 2, none⟩) (by simp; omega)).trans d2; have z3 : w6.cell? ⟨w.heap.size, 3, none⟩ = some (.int .i64 x3) := (hb6.cell (p := ⟨w.heap.size, 3, none⟩) (by simp; omega)).trans d3)) | ((go_at_call 113; refine (q7.out _ g6 c6 o6.reads).mono ?_; rintro e w7 ⟨g7, c7, rfl, o7, hb7⟩)))
  have b6 : Below w.heap.size w w6 := b2.drew.trans (hb6.mono b2.drew.size)
  have b7 : Below w.heap.size w w7 := b6.trans (hb7.mono b6.size)
  have HO : Hid _ := o7
  clear hb6 hb7 o6 o7
  go_wp2
  go_ret
  refine ⟨g7, c7, ?_, ?_, b7⟩
  · rw [HF.out.1]; rfl
  · rw [HF.out.1]; exact Own.base (s := .sl shLink) HO.out b6.size

theorem specTurn_any (a : Option Addr) (n cap : Nat) (l : List LinkD) (k : Int) (x1 x2 : ByteArray) (x3 : Int) (w : World) (hr : Reads (.sl shLink) w [.slice a n cap] l) (h1 : x1.size ≤ maxLen) (h2 : x2.size ≤ maxLen) (hn : n ≤ 1000000) :
    Calls Tryz.prog 78 #[.slice a n cap, .agg #[.int .i64 k, .string x1, .string x2, .int .i64 x3]] w fun e w' => ∃ g c, e = .returned (.slice (some ⟨g, 0, none⟩) (turnL l (k, x1, x2, x3, ())).length c) ∧ Own (.sl shLink) w' w.heap.size [.slice (some ⟨g, 0, none⟩) (turnL l (k, x1, x2, x3, ())).length c] (turnL l (k, x1, x2, x3, ())) [g] ∧ Below w.heap.size w w' := by
  by_cases k1 : k = 1
  · subst k1
    rw [show turnL l (1, x1, x2, x3, ()) = withL l x1 x3 from rfl]
    exact specTurn1 a n cap l x1 x2 x3 w hr h1 h2 hn
  by_cases k5 : k = 5
  · subst k5
    rw [show turnL l (5, x1, x2, x3, ()) = withL (lessL (lessL l x1) x2) x2 (findL l x1) from rfl]
    exact specTurn5 a n cap l x1 x2 x3 w hr h1 h2 hn
  rw [show turnL l (k, x1, x2, x3, ()) = lessL l x1 by unfold turnL; rw [if_neg k1, if_neg k5]]
  exact specTurnN k a n cap l x1 x2 x3 w hr h1 h2 hn k1 k5

end Go.Proofs.YtkaegbhmeonjfaaGreat

/- IdsS: l03Ids of the model. -/
namespace Go.Proofs.YtkaegbhmeonjfaaGreat
open Go.RowKit
set_option linter.unusedVariables false
set_option maxRecDepth 100000

theorem infoI : (Tryz.prog.info? 3).map (fun i => (i.zero, i.size, i.bytes)) = some (some (.int .i64 0), 1, 8) := by kernel_rfl

def keptIds (l : List LinkD) : List Int := l.map fun x => x.2.1
def madeIds (l : List TurnD) : List Int := (l.filter fun t => decide (t.1 = 1)).map fun t => t.2.2.2.1
theorem idsL_eq (l : List LinkD) (t : List TurnD) : idsL l t = keptIds l ++ madeIds t := rfl
theorem keptIds_take (l : List LinkD) (k : Nat) (hk : k < l.length) (x : LinkD) (hx : l[k] = x) : keptIds (l.take (k + 1)) = keptIds (l.take k) ++ [x.2.1] := by
  unfold keptIds; rw [List.take_succ_eq_append_getElem hk, hx]; simp
theorem madeIds_take (l : List TurnD) (k : Nat) (hk : k < l.length) (x : TurnD) (hx : l[k] = x) : madeIds (l.take (k + 1)) = if x.1 = 1 then madeIds (l.take k) ++ [x.2.2.2.1] else madeIds (l.take k) := by
  unfold madeIds; rw [List.take_succ_eq_append_getElem hk, hx, List.filter_append]
  by_cases h : x.1 = 1 <;> simp [h]
theorem ints_snoc (l : List Int) (x : Int) : l.map (Value.int .i64) ++ [Value.int .i64 x] = (l ++ [x]).map (Value.int .i64) := by simp

set_option maxRecDepth 100000 in
set_option maxHeartbeats 2000000 in
theorem specIds_ok (cs : List Value) (d : shDisk.D) (w : World) (hr : Reads shDisk w cs d) (hs : shDisk.sz d ≤ 1048576) :
    Calls Tryz.prog 63 #[.agg cs.toArray] w fun e w' => ∃ g c, e = .returned (.slice (some ⟨g, 0, none⟩) (idsL d.2.2.2.2.1 d.2.2.2.2.2.1).length c) ∧
      Own (.sl .int) w' w.heap.size [.slice (some ⟨g, 0, none⟩) (idsL d.2.2.2.2.1 d.2.2.2.2.2.1).length c] (idsL d.2.2.2.2.1 d.2.2.2.2.2.1) [g] ∧ Below w.heap.size w w' := by
  obtain ⟨i0, hi, hz0, hz1, hz2⟩ := info_parts infoI
  obtain ⟨a3, n3, c3, a4, n4, c4, a5, n5, c5, rfl, r3, r4, r5⟩ := open_Disk hr
  obtain ⟨x0, e0⟩ : ∃ x : Int, x = d.1 := ⟨_, rfl⟩
  obtain ⟨x1, e1⟩ : ∃ x : Int, x = d.2.1 := ⟨_, rfl⟩
  obtain ⟨x2, e2⟩ : ∃ x : Int, x = d.2.2.1 := ⟨_, rfl⟩
  rw [sz_Disk] at hs
  obtain ⟨kp, hkp⟩ : ∃ l : List LinkD, l = d.2.2.2.2.1 := ⟨_, rfl⟩
  obtain ⟨tn, htn⟩ : ∃ l : List TurnD, l = d.2.2.2.2.2.1 := ⟨_, rfl⟩
  have l4 : kp.length = n4 := by rw [hkp]; exact (reads_len r4).1
  have l5 : tn.length = n5 := by rw [htn]; exact (reads_len r5).1
  have s4 : n4 ≤ Sh.sz (.sl shLink) d.2.2.2.2.1 := by rw [← l4, hkp]; exact Nat.le_add_right _ _
  have s5 : n5 ≤ Sh.sz (.sl shTurn) d.2.2.2.2.2.1 := by rw [← l5, htn]; exact Nat.le_add_right _ _
  have hn45 : n4 + n5 ≤ 1048576 := by omega
  rw [← hkp] at r4 ⊢
  rw [← htn] at r5 ⊢
  rw [← e0, ← e1, ← e2]
  have HR : Hid (Reads (.sl shLink) w [.slice a4 n4 c4] kp ∧ Reads (.sl shTurn) w [.slice a5 n5 c5] tn) := ⟨r4, r5⟩
  have HL : Hid (kp.length = n4 ∧ tn.length = n5) := ⟨l4, l5⟩
  obtain ⟨W0, hW0⟩ : ∃ W0, W0 = w.alloc (.cells #[.int .i64 x0, .int .i64 x1, .int .i64 x2, .slice a3 n3 c3, .slice a4 n4 c4, .slice a5 n5 c5] 33) := ⟨_, rfl⟩
  have bW0 : Below w.heap.size w W0 := by rw [hW0]; exact (Below.refl _ _).alloc (Nat.le_refl _) _
  have hbox : W0.heap[w.heap.size]? = some (.cells #[.int .i64 x0, .int .i64 x1, .int .i64 x2, .slice a3 n3 c3, .slice a4 n4 c4, .slice a5 n5 c5] 33 (0, 0)) := by rw [hW0]; exact heap_alloc_new w _
  have zW0 : W0.heap.size = w.heap.size + 1 := by rw [hW0]; simp
  have ZW0 : Hid (W0.heap.size = w.heap.size + 1) := zW0
  have HW0 : Hid (W0 = w.alloc (.cells #[.int .i64 x0, .int .i64 x1, .int .i64 x2, .slice a3 n3 c3, .slice a4 n4 c4, .slice a5 n5 c5] 33)) := hW0
  have BX : Hid (∀ w', Below W0.heap.size W0 w' → w'.cell? ⟨w.heap.size, 5, none⟩ = some (.slice a5 n5 c5)) := fun w' h' => box_cell ((h'.block _ (by omega)).trans hbox) rfl
  have hown0 := World.ownsRow_lit (base := W0.heap.size) (e := 3) (size := 1) W0 #[] 0 (Nat.le_refl _) (Nat.zero_le _) rfl
  clear hr hs r3 r4 r5 e0 e1 e2 hkp htn l4 l5 s4 s5 hW0 hbox zW0
  go_enter Tryz.func63, Tryz.ntmps63
  go_wp2
  rw [← HW0.out]
  go_loopw [3, 12] (fun v i wr => ∃ (k g c m : Nat) (xs : List Int), k ≤ n4 ∧ v = .slice (some ⟨g, 0, none⟩) m c ∧ i = .int .i64 k ∧ wr.ownsRow W0.heap.size 3 1 (.slice (some ⟨g, 0, none⟩) m c) m (xs.map (Value.int .i64)) ∧ Below W0.heap.size W0 wr ∧ Hid (xs = keptIds (kp.take k) ∧ xs.length = m) ∧ m ≤ k) (fun _ i _ => n4 - (intOf i).toNat)
  case atStart => exact ⟨0, W0.heap.size, 0, 0, [], Nat.zero_le _, by rw [ZW0.out], rfl, hown0, (Below.refl _ _).alloc (Nat.le_refl _) _, ⟨by simp [keptIds], rfl⟩, Nat.le_refl _⟩
  case round =>
    obtain ⟨k, g, c, m, xs, hk, rfl, rfl, hown, hbel, hx0, hxl⟩ := hrel
    have hbs := hbel.size
    have hg := hown.lt g rfl
    by_cases hlt : k < n4
    · obtain ⟨b, off, cc, x, rfl, hb, hx, hrx, hcell⟩ := reads_elem HR.out.1 k hlt
      obtain ⟨rfl, _⟩ := open_Link hrx
      obtain ⟨hkd, hxe⟩ := at_some' hx
      have hst := keptIds_take kp k hkd x hxe
      obtain ⟨y0, ey0⟩ : ∃ y : ByteArray, y = x.1 := ⟨_, rfl⟩
      obtain ⟨y1, ey1⟩ : ∃ y : Int, y = x.2.1 := ⟨_, rfl⟩
      have bw := bW0.trans (hbel.mono bW0.size)
      have g0 : wr.cell? ⟨b, off + k * 2, none⟩ = some (.string y0) := by rw [ey0]; exact (bw.cell (p := ⟨b, off + (k * 2 + 0), none⟩) hb).trans (hcell 0 (by decide))
      have g1 : wr.cell? ⟨b, off + k * 2 + 1, none⟩ = some (.int .i64 y1) := by rw [ey1]; exact (bw.cell (p := ⟨b, off + (k * 2 + 1), none⟩) hb).trans (hcell 1 (by decide))
      have bA : Below W0.heap.size W0 (wr.alloc (.cells #[.string y0, .int .i64 y1] 111)) := hbel.alloc hbs _
      have oA : (wr.alloc (.cells #[.string y0, .int .i64 y1] 111)).ownsRow W0.heap.size 3 1 (.slice (some ⟨g, 0, none⟩) m c) m (xs.map (Value.int .i64)) := hown.alloc _
      rw [← ey1] at hst
      have HX : Hid (xs ++ [y1] = keptIds (kp.take (k + 1)) ∧ (xs ++ [y1]).length = m + 1) := ⟨by rw [hst, hx0.out.1], by rw [List.length_append, hx0.out.2]; rfl⟩
      clear hcell hrx hx hxe ey0 ey1 hst hx0 hown bw
      go_wp2_with (at_builtin; refine wpList_append_lies _ rfl _ _ 27 rfl W0.heap.size 3 i0 (.int .i64 0) 1 8 Tryz.underlying27 hi hz0 hz1 hz2 rfl (by decide) _ m _ rfl (oA.alloc _) ⟨_, 0, none⟩ 1 _ [.int .i64 y1] rfl rfl ?c1 ?c2 (by omega) ?c3 ?c4 ?c5 _ rfl ?_)
      case c1 => exact cells_new' _ _ _ _ (by simp)
      case c2 => intro u hu; simp at hu; rcases hu with rfl; rfl
      case c3 => unfold maxLen; omega
      case c4 => omega
      case c5 => simp; omega
      intro gg cap1 w3 hown3 hgrow3 _ _
      have bB := bA.alloc (o := .cells #[.int .i64 y1] 3) bA.size
      have hbel3 : Below W0.heap.size W0 w3 := bB.grown hgrow3 bB.size (fun y h => by cases h; exact hg.1)
      rw [ints_snoc] at hown3
      clear hgrow3 oA bA bB g0 g1
      go_wp2
      go_roundw
      case rel => exact ⟨k + 1, gg, cap1, m + 1, xs ++ [y1], by omega, rfl, by go_num, hown3, hbel3, HX, by omega⟩
      case measure => simp [intOf]; omega
    · have e : k = n4 := by omega
      have HE : Hid (xs = keptIds kp ∧ xs.length = m) := ⟨by rw [hx0.out.1, List.take_of_length_le (by have := HL.out.1; omega)], hx0.out.2⟩
      have hm4 : m ≤ n4 := by omega
      have c5x := BX.out wr hbel
      clear hx0 hxl
      go_wp2
      go_loopw [3, 25] (fun v i wr => ∃ (k g c m : Nat) (xs : List Int), k ≤ n5 ∧ v = .slice (some ⟨g, 0, none⟩) m c ∧ i = .int .i64 k ∧ wr.ownsRow W0.heap.size 3 1 (.slice (some ⟨g, 0, none⟩) m c) m (xs.map (Value.int .i64)) ∧ Below W0.heap.size W0 wr ∧ Hid (xs = keptIds kp ++ madeIds (tn.take k) ∧ xs.length = m) ∧ m ≤ n4 + k) (fun _ i _ => n5 - (intOf i).toNat)
      case atStart => exact ⟨0, g, c, m, xs, Nat.zero_le _, rfl, rfl, hown, hbel, ⟨by rw [HE.out.1]; simp [madeIds], HE.out.2⟩, by omega⟩
      case round =>
        clear hown hbel hbs hg HE hm4 c5x hlt e hk
        obtain ⟨k, g, c, m, xs, hk, rfl, rfl, hown, hbel, hx0, hxl⟩ := hrel
        have hbs := hbel.size
        have hg := hown.lt g rfl
        by_cases hlt : k < n5
        · obtain ⟨b, off, cc, x, rfl, hb, hx, hrx, hcell⟩ := reads_elem HR.out.2 k hlt
          obtain ⟨rfl, _⟩ := open_Turn hrx
          obtain ⟨hkd, hxe⟩ := at_some' hx
          have hst := madeIds_take tn k hkd x hxe
          obtain ⟨y0, ey0⟩ : ∃ y : Int, y = x.1 := ⟨_, rfl⟩
          obtain ⟨y1, ey1⟩ : ∃ y : ByteArray, y = x.2.1 := ⟨_, rfl⟩
          obtain ⟨y2, ey2⟩ : ∃ y : ByteArray, y = x.2.2.1 := ⟨_, rfl⟩
          obtain ⟨y3, ey3⟩ : ∃ y : Int, y = x.2.2.2.1 := ⟨_, rfl⟩
          have bw := bW0.trans (hbel.mono bW0.size)
          have g0 : wr.cell? ⟨b, off + k * 4, none⟩ = some (.int .i64 y0) := by rw [ey0]; exact (bw.cell (p := ⟨b, off + (k * 4 + 0), none⟩) hb).trans (hcell 0 (by decide))
          have g1 : wr.cell? ⟨b, off + k * 4 + 1, none⟩ = some (.string y1) := by rw [ey1]; exact (bw.cell (p := ⟨b, off + (k * 4 + 1), none⟩) hb).trans (hcell 1 (by decide))
          have g2 : wr.cell? ⟨b, off + k * 4 + 2, none⟩ = some (.string y2) := by rw [ey2]; exact (bw.cell (p := ⟨b, off + (k * 4 + 2), none⟩) hb).trans (hcell 2 (by decide))
          have g3 : wr.cell? ⟨b, off + k * 4 + 3, none⟩ = some (.int .i64 y3) := by rw [ey3]; exact (bw.cell (p := ⟨b, off + (k * 4 + 3), none⟩) hb).trans (hcell 3 (by decide))
          have bA : Below W0.heap.size W0 (wr.alloc (.cells #[.int .i64 y0, .string y1, .string y2, .int .i64 y3] 93)) := hbel.alloc hbs _
          have oA : (wr.alloc (.cells #[.int .i64 y0, .string y1, .string y2, .int .i64 y3] 93)).ownsRow W0.heap.size 3 1 (.slice (some ⟨g, 0, none⟩) m c) m (xs.map (Value.int .i64)) := hown.alloc _
          rw [← ey0, ← ey3] at hst
          by_cases hq : y0 = 1
          · rw [if_pos hq] at hst
            have HX : Hid (xs ++ [y3] = keptIds kp ++ madeIds (tn.take (k + 1)) ∧ (xs ++ [y3]).length = m + 1) := ⟨by rw [hst, hx0.out.1, List.append_assoc], by rw [List.length_append, hx0.out.2]; rfl⟩
            subst hq
            clear hcell hrx hx hxe ey0 ey1 ey2 ey3 hst hx0 hown bw
            go_wp2_with (at_builtin; refine wpList_append_lies _ rfl _ _ 27 rfl W0.heap.size 3 i0 (.int .i64 0) 1 8 Tryz.underlying27 hi hz0 hz1 hz2 rfl (by decide) _ m _ rfl (oA.alloc _) ⟨_, 0, none⟩ 1 _ [.int .i64 y3] rfl rfl ?c1 ?c2 (by omega) ?c3 ?c4 ?c5 _ rfl ?_)
            case c1 => exact cells_new' _ _ _ _ (by simp)
            case c2 => intro u hu; simp at hu; rcases hu with rfl; rfl
            case c3 => unfold maxLen; omega
            case c4 => omega
            case c5 => simp; omega
            intro gg cap1 w3 hown3 hgrow3 _ _
            have bB := bA.alloc (o := .cells #[.int .i64 y3] 3) bA.size
            have hbel3 : Below W0.heap.size W0 w3 := bB.grown hgrow3 bB.size (fun y h => by cases h; exact hg.1)
            rw [ints_snoc] at hown3
            clear hgrow3 oA bA bB g0 g1 g2 g3
            go_wp2
            go_roundw
            case rel => exact ⟨k + 1, gg, cap1, m + 1, xs ++ [y3], by omega, rfl, by go_num, hown3, hbel3, HX, by omega⟩
            case measure => simp [intOf]; omega
          · rw [if_neg hq] at hst
            have HX : Hid (xs = keptIds kp ++ madeIds (tn.take (k + 1)) ∧ xs.length = m) := ⟨by rw [hst, hx0.out.1], hx0.out.2⟩
            have hq' : (y0 == 1) = false := by simp [hq]
            clear hcell hrx hx hxe ey0 ey1 ey2 ey3 hst hx0 hown bw
            go_wp2
            go_roundw
            case rel => exact ⟨k + 1, g, c, m, xs, by omega, rfl, by go_num, oA, bA, HX, by omega⟩
            case measure => simp [intOf]; omega
        · have HE : Hid (xs = idsL kp tn ∧ xs.length = m) := ⟨by rw [hx0.out.1, List.take_of_length_le (by have := HL.out.2; omega)]; rfl, hx0.out.2⟩
          have bw := bW0.trans (hbel.mono bW0.size)
          clear hx0
          go_wp2
          go_ret
          refine ⟨g, c, ?_, ?_, bw⟩
          · rw [← HE.out.1, HE.out.2]; rfl
          · rw [← HE.out.1, HE.out.2]
            exact Own.base (s := .sl .int) (own_ints' HE.out.2 hown) bW0.size

end Go.Proofs.YtkaegbhmeonjfaaGreat

/- DUsed: DiskUsed, the model's and the program's. -/
namespace Go.Proofs.YtkaegbhmeonjfaaGreat
open Go.RowKit
set_option linter.unusedVariables false
set_option maxRecDepth 100000

/-- What the first k nodes use. -/
def usedTo (l : List shNode.D) (k : Nat) : Int := ((l.take k).map fun x => if ((List.length x.2.1 : Nat) : Int) > ((List.length x.2.2.1 : Nat) : Int) then ((List.length x.2.1 : Nat) : Int) else ((List.length x.2.2.1 : Nat) : Int)).sum

def used (d : shDisk.D) : Int := usedTo d.2.2.2.1 (List.length d.2.2.2.1)

theorem usedTo_zero (l : List shNode.D) : usedTo l 0 = 0 := by simp [usedTo]

theorem usedTo_succ (l : List shNode.D) (k : Nat) (x : shNode.D) (h : shNode.at l k = some x) :
    usedTo l (k + 1) = usedTo l k + if ((List.length x.2.1 : Nat) : Int) > ((List.length x.2.2.1 : Nat) : Int) then ((List.length x.2.1 : Nat) : Int) else ((List.length x.2.2.1 : Nat) : Int) := by
  have hk : k < l.length := by
    rcases Nat.lt_or_ge k l.length with h' | h'
    · exact h'
    · rw [show shNode.at l k = none from List.getElem?_eq_none h'] at h; cases h
  have hx : l[k] = x := by
    have : l[k]? = some x := h
    rw [List.getElem?_eq_getElem hk] at this
    exact Option.some.inj this
  have e2 : l.take (k + 1) = l.take k ++ [x] := by rw [List.take_succ_eq_append_getElem hk, hx]
  unfold usedTo
  rw [e2, List.map_append, List.sum_append]
  simp

theorem sz_len (x : shNode.D) : (List.length x.2.1 : Nat) ≤ shNode.sz x ∧ (List.length x.2.2.1 : Nat) ≤ shNode.sz x := by
  rw [sz_Node]
  have h1 : (List.length x.2.1 : Nat) ≤ Sh.sz (.sl .u8) x.2.1 := Nat.le_add_right _ _
  have h2 : (List.length x.2.2.1 : Nat) ≤ Sh.sz (.sl .u8) x.2.2.1 := Nat.le_add_right _ _
  omega

theorem usedTo_bd (l : List shNode.D) : ∀ k, 0 ≤ usedTo l k ∧ usedTo l k ≤ szTo shNode l k
  | 0 => by rw [usedTo_zero, szTo_zero]; simp
  | k + 1 => by
    have ih := usedTo_bd l k
    cases h : shNode.at l k with
    | none =>
      have hk : l.length ≤ k := by
        rcases Nat.lt_or_ge k l.length with h' | h'
        · rw [show shNode.at l k = some l[k] from List.getElem?_eq_getElem h'] at h; cases h
        · exact h'
      have e : l.take (k + 1) = l.take k := by rw [List.take_of_length_le (by omega), List.take_of_length_le hk]
      unfold usedTo szTo at *
      rw [e]; exact ih
    | some x =>
      have h1 := usedTo_succ l k x h
      have h2 := szTo_succ shNode l k x h
      have h3 := sz_len x
      rw [h1, h2]
      split <;> omega

theorem specMost_any (a b : Int) (w : World) :
    Calls Tryz.prog 61 #[.int .i64 a, .int .i64 b] w fun e w' => e = .returned (.int .i64 (if a > b then a else b)) ∧ w' = w := by
  by_cases h : a > b
  · rw [if_pos h]
    go_enter Tryz.func61, Tryz.ntmps61
    go_wp2
    go_ret
    exact ⟨rfl, rfl⟩
  · rw [if_neg h]
    go_enter Tryz.func61, Tryz.ntmps61
    go_wp2
    go_ret
    exact ⟨rfl, rfl⟩

set_option maxRecDepth 100000 in
set_option maxHeartbeats 1000000 in
theorem specUsed_ok (cs : List Value) (d : shDisk.D) (w : World) (hr : Reads shDisk w cs d) (hs : shDisk.sz d ≤ 1048576) :
    Calls Tryz.prog 60 #[.agg cs.toArray] w fun e w' => e = .returned (.int .i64 (used d)) ∧ Below w.heap.size w w' := by
  obtain ⟨a3, n3, c3, a4, n4, c4, a5, n5, c5, rfl, r3, r4, r5⟩ := open_Disk hr
  obtain ⟨x0, e0⟩ : ∃ x : Int, x = d.1 := ⟨_, rfl⟩
  obtain ⟨x1, e1⟩ : ∃ x : Int, x = d.2.1 := ⟨_, rfl⟩
  obtain ⟨x2, e2⟩ : ∃ x : Int, x = d.2.2.1 := ⟨_, rfl⟩
  rw [sz_Disk] at hs
  obtain ⟨hl, hc1, hc2⟩ := reads_len r3
  have hsz : n3 + (List.map shNode.sz d.2.2.2.1).sum ≤ 1048576 := by
    have : Sh.sz (.sl shNode) d.2.2.2.1 = n3 + (List.map shNode.sz d.2.2.2.1).sum := by rw [← hl]; rfl
    omega
  rw [← e0, ← e1, ← e2]
  obtain ⟨nd, hnd⟩ : ∃ nd : List shNode.D, nd = d.2.2.2.1 := ⟨_, rfl⟩
  have HU : Hid (used d = usedTo nd n3) := by show _ = _; unfold used; rw [hnd, ← hl]
  rw [← hnd] at r3 hsz hl
  have HR : Hid (Reads (.sl shNode) w [.slice a3 n3 c3] nd) := r3
  have HS : Hid (n3 + (List.map shNode.sz nd).sum ≤ 1048576) := hsz
  have HL : Hid (nd.length = n3) := hl
  rw [HU.out]
  have hn : n3 ≤ 1048576 := by omega
  have bW0 : Below w.heap.size w (w.alloc (.cells #[.int .i64 x0, .int .i64 x1, .int .i64 x2, .slice a3 n3 c3, .slice a4 n4 c4, .slice a5 n5 c5] 33)) := (Below.refl _ _).alloc (Nat.le_refl _) _
  clear hr hs r3 r4 r5 e0 e1 e2 hl hc1 hc2 hnd hsz
  go_enter Tryz.func60, Tryz.ntmps60
  go_wp2
  go_loopw [3, 9] (fun s i wr => ∃ k : Nat, k ≤ n3 ∧ s = .int .i64 (usedTo nd k) ∧ i = .int .i64 k ∧ Below w.heap.size w wr) (fun _ i _ => n3 - (intOf i).toNat)
  case atStart => exact ⟨0, Nat.zero_le _, by rw [usedTo_zero], rfl, bW0⟩
  case round =>
    obtain ⟨k, hk, rfl, rfl, hbel⟩ := hrel
    have s1 := usedTo_bd nd k
    have s2 := szTo_le shNode nd k
    have s3 := HS.out
    by_cases hlt : k < n3
    · obtain ⟨b, off, c, x, rfl, hb, hx, hrx, hcell⟩ := reads_elem HR.out k hlt
      have u1 := usedTo_succ nd k x hx
      have s4 := usedTo_bd nd (k + 1)
      have s5 := szTo_le shNode nd (k + 1)
      obtain ⟨a1, n1, c1, a2, n2, c2, rfl, t1, t2⟩ := open_Node hrx
      have l1 := (reads_len t1).1
      have l2 := (reads_len t2).1
      obtain ⟨y0, ey0⟩ : ∃ y : Int, y = x.1 := ⟨_, rfl⟩
      have g0 : wr.cell? ⟨b, off + k * 3, none⟩ = some (.int .i64 y0) := by rw [ey0]; exact (hbel.cell (p := ⟨b, off + (k * 3 + 0), none⟩) hb).trans (hcell 0 (by decide))
      have g1 : wr.cell? ⟨b, off + k * 3 + 1, none⟩ = some (.slice a1 n1 c1) := (hbel.cell (p := ⟨b, off + (k * 3 + 1), none⟩) hb).trans (hcell 1 (by decide))
      have g2 : wr.cell? ⟨b, off + k * 3 + 2, none⟩ = some (.slice a2 n2 c2) := (hbel.cell (p := ⟨b, off + (k * 3 + 2), none⟩) hb).trans (hcell 2 (by decide))
      rw [l1, l2] at u1
      obtain ⟨U, hU⟩ : ∃ U, U = usedTo nd k := ⟨_, rfl⟩
      obtain ⟨M, hM⟩ : ∃ M : Int, M = if (n1 : Int) > (n2 : Int) then (n1 : Int) else (n2 : Int) := ⟨_, rfl⟩
      have HM : Hid (M = _) := hM
      rw [← hU, ← hM] at u1
      rw [← hU] at s1
      have HU1 : Hid (usedTo nd (k + 1) = U + M) := u1
      rw [u1] at s4
      rw [← hU]
      have hM0 : 0 ≤ M := by rw [hM]; split <;> omega
      have hbs := hbel.size
      have bA : Below w.heap.size w (wr.alloc (.cells #[.int .i64 y0, .slice a1 n1 c1, .slice a2 n2 c2] 70)) := hbel.alloc hbs _
      clear hcell hrx hx t1 t2 l1 l2 ey0 hU hM u1
      go_wp2_with fail
      refine (specMost_any _ _ _).mono ?_
      rintro e w2 ⟨rfl, rfl⟩
      rw [← HM.out]
      clear g0 g1 g2
      go_wp2
      go_roundw
      case rel => exact ⟨k + 1, by omega, by rw [HU1.out], by go_num, bA⟩
      case measure => simp [intOf]; omega
    · have e : k = n3 := by omega
      subst e
      go_wp2
      go_ret
      exact ⟨rfl, hbel⟩

set_option maxRecDepth 100000 in
theorem nodeUsed_ok (y0 : Int) (a1 : Option Addr) (n1 c1 : Nat) (a2 : Option Addr) (n2 c2 : Nat) (w : World) :
    Calls Tryz.prog 111 #[.agg #[.int .i64 y0, .slice a1 n1 c1, .slice a2 n2 c2]] w fun e w' => e = .returned (.int .i64 (if (n1 : Int) > (n2 : Int) then (n1 : Int) else (n2 : Int))) ∧ Below w.heap.size w w' := by
  have bA : Below w.heap.size w (w.alloc (.cells #[.int .i64 y0, .slice a1 n1 c1, .slice a2 n2 c2] 70)) := (Below.refl _ _).alloc (Nat.le_refl _) _
  go_enter Tryz.func111, Tryz.ntmps111
  go_wp2 <;> (go_ret; refine ⟨?_, bA⟩) <;> first | rfl | (have e : n1 = n2 := by omega); subst e; rfl

set_option maxRecDepth 100000 in
set_option maxHeartbeats 1000000 in
theorem implUsed_ok (cs : List Value) (d : shDisk.D) (w : World) (hr : Reads shDisk w cs d) (hs : shDisk.sz d ≤ 1048576) :
    Calls Tryz.prog 89 #[.agg cs.toArray] w fun e w' => e = .returned (.int .i64 (used d)) ∧ Below w.heap.size w w' := by
  obtain ⟨a3, n3, c3, a4, n4, c4, a5, n5, c5, rfl, r3, r4, r5⟩ := open_Disk hr
  obtain ⟨x0, e0⟩ : ∃ x : Int, x = d.1 := ⟨_, rfl⟩
  obtain ⟨x1, e1⟩ : ∃ x : Int, x = d.2.1 := ⟨_, rfl⟩
  obtain ⟨x2, e2⟩ : ∃ x : Int, x = d.2.2.1 := ⟨_, rfl⟩
  rw [sz_Disk] at hs
  obtain ⟨hl, hc1, hc2⟩ := reads_len r3
  have hsz : n3 + (List.map shNode.sz d.2.2.2.1).sum ≤ 1048576 := by
    have : Sh.sz (.sl shNode) d.2.2.2.1 = n3 + (List.map shNode.sz d.2.2.2.1).sum := by rw [← hl]; rfl
    omega
  rw [← e0, ← e1, ← e2]
  obtain ⟨nd, hnd⟩ : ∃ nd : List shNode.D, nd = d.2.2.2.1 := ⟨_, rfl⟩
  have HU : Hid (used d = usedTo nd n3) := by show _ = _; unfold used; rw [hnd, ← hl]
  rw [← hnd] at r3 hsz hl
  have HR : Hid (Reads (.sl shNode) w [.slice a3 n3 c3] nd) := r3
  have HS : Hid (n3 + (List.map shNode.sz nd).sum ≤ 1048576) := hsz
  have HL : Hid (nd.length = n3) := hl
  rw [HU.out]
  have hn : n3 ≤ 1048576 := by omega
  have bW0 : Below w.heap.size w (w.alloc (.cells #[.int .i64 x0, .int .i64 x1, .int .i64 x2, .slice a3 n3 c3, .slice a4 n4 c4, .slice a5 n5 c5] 33)) := (Below.refl _ _).alloc (Nat.le_refl _) _
  clear hr hs r3 r4 r5 e0 e1 e2 hl hc1 hc2 hnd hsz
  go_enter Tryz.func89, Tryz.ntmps89
  go_wp2
  go_loopw [3, 9] (fun s i wr => ∃ k : Nat, k ≤ n3 ∧ s = .int .i64 (usedTo nd k) ∧ i = .int .i64 k ∧ Below w.heap.size w wr) (fun _ i _ => n3 - (intOf i).toNat)
  case atStart => exact ⟨0, Nat.zero_le _, by rw [usedTo_zero], rfl, bW0⟩
  case round =>
    obtain ⟨k, hk, rfl, rfl, hbel⟩ := hrel
    have s1 := usedTo_bd nd k
    have s2 := szTo_le shNode nd k
    have s3 := HS.out
    by_cases hlt : k < n3
    · obtain ⟨b, off, c, x, rfl, hb, hx, hrx, hcell⟩ := reads_elem HR.out k hlt
      have u1 := usedTo_succ nd k x hx
      have s4 := usedTo_bd nd (k + 1)
      have s5 := szTo_le shNode nd (k + 1)
      obtain ⟨a1, n1, c1, a2, n2, c2, rfl, t1, t2⟩ := open_Node hrx
      have l1 := (reads_len t1).1
      have l2 := (reads_len t2).1
      obtain ⟨y0, ey0⟩ : ∃ y : Int, y = x.1 := ⟨_, rfl⟩
      have g0 : wr.cell? ⟨b, off + k * 3, none⟩ = some (.int .i64 y0) := by rw [ey0]; exact (hbel.cell (p := ⟨b, off + (k * 3 + 0), none⟩) hb).trans (hcell 0 (by decide))
      have g1 : wr.cell? ⟨b, off + k * 3 + 1, none⟩ = some (.slice a1 n1 c1) := (hbel.cell (p := ⟨b, off + (k * 3 + 1), none⟩) hb).trans (hcell 1 (by decide))
      have g2 : wr.cell? ⟨b, off + k * 3 + 2, none⟩ = some (.slice a2 n2 c2) := (hbel.cell (p := ⟨b, off + (k * 3 + 2), none⟩) hb).trans (hcell 2 (by decide))
      rw [l1, l2] at u1
      obtain ⟨U, hU⟩ : ∃ U, U = usedTo nd k := ⟨_, rfl⟩
      obtain ⟨M, hM⟩ : ∃ M : Int, M = if (n1 : Int) > (n2 : Int) then (n1 : Int) else (n2 : Int) := ⟨_, rfl⟩
      have HM : Hid (M = _) := hM
      rw [← hU, ← hM] at u1
      rw [← hU] at s1
      have HU1 : Hid (usedTo nd (k + 1) = U + M) := u1
      rw [u1] at s4
      rw [← hU]
      have hM0 : 0 ≤ M := by rw [hM]; split <;> omega
      have hbs := hbel.size
      have bA : Below w.heap.size w (wr.alloc (.cells #[.int .i64 y0, .slice a1 n1 c1, .slice a2 n2 c2] 70)) := hbel.alloc hbs _
      clear hcell hrx hx t1 t2 l1 l2 ey0 hU hM u1
      go_wp2_with fail
      refine (nodeUsed_ok _ _ _ _ _ _ _ _).mono ?_
      rintro e w2 ⟨rfl, hb2⟩
      rw [← HM.out]
      have bB := bA.trans (hb2.mono bA.size)
      clear hb2
      clear g0 g1 g2
      go_wp2
      go_roundw
      case rel => exact ⟨k + 1, by omega, by rw [HU1.out], by go_num, bB⟩
      case measure => simp [intOf]; omega
    · have e : k = n3 := by omega
      subst e
      go_wp2
      go_ret
      exact ⟨rfl, hbel⟩


end Go.Proofs.YtkaegbhmeonjfaaGreat

/- DOkP: A right disk, as the model asks it, in plain terms. -/
namespace Go.Proofs.YtkaegbhmeonjfaaGreat
open Go.RowKit
set_option linter.unusedVariables false
set_option maxRecDepth 100000

/-- The first k nodes rise and stay below next. -/
def nodesTo (l : List NodeD) (next : Int) (k : Nat) : Prop := ∀ i (hi : i < l.length), i < k → 1 ≤ (l[i]).1 ∧ (l[i]).1 < next ∧ ∀ j (hj : j < l.length), j + 1 = i → (l[j]).1 < (l[i]).1
/-- The first k links have names that rise, and Ids. -/
def keptTo (l : List LinkD) (k : Nat) : Prop := ∀ i (hi : i < l.length), i < k → isName (l[i]).1 ∧ 1 ≤ (l[i]).2.1 ∧ ∀ j (hj : j < l.length), j + 1 = i → ltS (l[j]).1 (l[i]).1 = true
/-- The first k Ids are unlike, and Ids of nodes. -/
def idsTo (ids nodes : List Int) (k : Nat) : Prop := ∀ i (hi : i < ids.length), i < k → hasN (ids.take i) (ids[i]) = false ∧ hasN nodes (ids[i]) = true
def dirL (l : List LinkD) (ts : List TurnD) : List LinkD := ts.foldl turnL l
def nodeIds (l : List NodeD) : List Int := l.map fun x => x.1

def limitsP (x0 x1 x2 : Int) (n3 n4 n5 : Nat) : Prop := 0 ≤ x0 ∧ x0 ≤ 60000 ∧ -1 ≤ x1 ∧ x1 ≤ 1000 ∧ 1 ≤ x2 ∧ x2 ≤ 1000000 ∧ n3 ≤ 8 ∧ n4 ≤ 8 ∧ n5 ≤ 40

/-- A disk is right, as the model asks it. -/
def specOkP (d : shDisk.D) : Prop :=
  limitsP d.1 d.2.1 d.2.2.1 (List.length d.2.2.2.1) (List.length d.2.2.2.2.1) (List.length d.2.2.2.2.2.1) ∧ nodesTo d.2.2.2.1 d.2.2.1 (List.length d.2.2.2.1) ∧ keptTo d.2.2.2.2.1 (List.length d.2.2.2.2.1) ∧
    (idsL d.2.2.2.2.1 d.2.2.2.2.2.1).length = List.length d.2.2.2.1 ∧ idsTo (idsL d.2.2.2.2.1 d.2.2.2.2.2.1) (nodeIds d.2.2.2.1) (idsL d.2.2.2.2.1 d.2.2.2.2.2.1).length ∧
    turnsOkL d.2.2.2.2.1 d.2.2.2.2.2.1 ∧ used d ≤ d.1
theorem nodesTo_succ {l : List NodeD} {next : Int} {k : Nat} (h : nodesTo l next k) (hk : k < l.length) (h1 : 1 ≤ (l[k]).1) (h2 : (l[k]).1 < next) (h3 : ∀ j (hj : j < l.length), j + 1 = k → (l[j]).1 < (l[k]).1) : nodesTo l next (k + 1) := by
  intro i hi hik
  by_cases e : i = k
  · subst e; exact ⟨h1, h2, h3⟩
  · exact h i hi (by omega)
theorem keptTo_succ {l : List LinkD} {k : Nat} (h : keptTo l k) (hk : k < l.length) (h1 : isName (l[k]).1) (h2 : 1 ≤ (l[k]).2.1) (h3 : ∀ j (hj : j < l.length), j + 1 = k → ltS (l[j]).1 (l[k]).1 = true) : keptTo l (k + 1) := by
  intro i hi hik
  by_cases e : i = k
  · subst e; exact ⟨h1, h2, h3⟩
  · exact h i hi (by omega)
theorem idsTo_succ {ids nodes : List Int} {k : Nat} (h : idsTo ids nodes k) (hk : k < ids.length) (h1 : hasN (ids.take k) (ids[k]) = false) (h2 : hasN nodes (ids[k]) = true) : idsTo ids nodes (k + 1) := by
  intro i hi hik
  by_cases e : i = k
  · subst e; exact ⟨h1, h2⟩
  · exact h i hi (by omega)

theorem turnsOk_snoc : ∀ {l : List LinkD} {ts : List TurnD} {t : TurnD}, turnsOkL l (ts ++ [t]) ↔ turnsOkL l ts ∧ turnOkL (dirL l ts) t
  | l, [], t => by simp [turnsOkL, dirL]
  | l, u :: ts, t => by
    have ih := turnsOk_snoc (l := turnL l u) (ts := ts) (t := t)
    simp only [List.cons_append, turnsOkL]
    rw [ih]
    simp [dirL, and_assoc]
theorem turnsOk_take {l : List LinkD} {ts : List TurnD} (h : turnsOkL l ts) (k : Nat) : turnsOkL l (ts.take k) := by
  induction ts generalizing l k with
  | nil => simpa using h
  | cons t ts ih =>
    cases k with
    | zero => simp [turnsOkL]
    | succ k => exact ⟨h.1, ih h.2 k⟩
theorem dirL_snoc (l : List LinkD) (ts : List TurnD) (t : TurnD) : dirL l (ts ++ [t]) = turnL (dirL l ts) t := by simp [dirL]
theorem turnL_len (l : List LinkD) (t : TurnD) : (turnL l t).length ≤ l.length + 1 := by
  unfold turnL
  split
  · rw [withL_len]; exact Nat.le_refl _
  · split
    · rw [withL_len]
      have := lessL_len (lessL l t.2.1) t.2.2.1
      have := lessL_len l t.2.1
      omega
    · have := lessL_len l t.2.1; omega
theorem dirL_len (l : List LinkD) (ts : List TurnD) : (dirL l ts).length ≤ l.length + ts.length := by
  induction ts generalizing l with
  | nil => simp [dirL]
  | cons t ts ih =>
    have h1 := ih (turnL l t)
    have h2 := turnL_len l t
    have h3 : dirL l (t :: ts) = dirL (turnL l t) ts := rfl
    rw [h3]
    simp only [List.length_cons]
    omega
theorem nodeIds_take (l : List NodeD) (k : Nat) (hk : k < l.length) (x : NodeD) (hx : l[k] = x) : nodeIds (l.take (k + 1)) = nodeIds (l.take k) ++ [x.1] := by
  unfold nodeIds; rw [List.take_succ_eq_append_getElem hk, hx]; simp

end Go.Proofs.YtkaegbhmeonjfaaGreat

/- ImpA: limitsOk, nodesOk, keptOk of the program. -/
namespace Go.Proofs.YtkaegbhmeonjfaaGreat
open Go.RowKit
set_option linter.unusedVariables false
set_option maxRecDepth 100000

def limB (x0 x1 x2 : Int) : Bool := decide (0 ≤ x0) && decide (x0 ≤ 60000) && decide (-1 ≤ x1) && decide (x1 ≤ 1000) && decide (1 ≤ x2) && decide (x2 ≤ 1000000)

set_option maxRecDepth 100000 in
set_option maxHeartbeats 2000000 in
theorem limitsOk_ok (x0 x1 x2 : Int) (a3 : Option Addr) (n3 c3 : Nat) (a4 : Option Addr) (n4 c4 : Nat) (a5 : Option Addr) (n5 c5 : Nat) (w : World) :
    Calls Tryz.prog 84 #[.agg #[.int .i64 x0, .int .i64 x1, .int .i64 x2, .slice a3 n3 c3, .slice a4 n4 c4, .slice a5 n5 c5]] w fun e w' => e = .returned (.bool (limB x0 x1 x2)) ∧ Below w.heap.size w w' := by
  go_enter Tryz.func84, Tryz.ntmps84
  go_wp2
  all_goals (go_ret; refine ⟨?_, (Below.refl _ _).alloc (Nat.le_refl _) _⟩)
  all_goals (show Ending.returned (Value.bool _) = Ending.returned (Value.bool _))
  all_goals (first | (simp_all [limB]; done) | (simp_all [limB]; omega))

/-- What nodesOk has seen last. -/
def lastId (l : List NodeD) (k : Nat) (v : Int) : Prop := (k = 0 ∧ v = 0) ∨ ∃ j, ∃ hj : j < l.length, k = j + 1 ∧ v = (l[j]).1

/-- The word of nodesOk. -/
def nodesIB (l : List NodeD) (next : Int) : Bool :=
  decide (∀ i : Fin l.length, 1 ≤ (l[i.1]).1 ∧ (l[i.1]).1 < next ∧ ∀ j : Fin l.length, j.1 + 1 = i.1 → (l[j.1]).1 < (l[i.1]).1) && decide (l.length ≤ 8)
theorem nodesIB_iff (l : List NodeD) (next : Int) : nodesIB l next = true ↔ nodesTo l next l.length ∧ l.length ≤ 8 := by
  unfold nodesIB nodesTo
  simp only [Bool.and_eq_true, decide_eq_true_eq]
  constructor
  · rintro ⟨h, h8⟩
    exact ⟨fun i hi _ => ⟨(h ⟨i, hi⟩).1, (h ⟨i, hi⟩).2.1, fun j hj e => (h ⟨i, hi⟩).2.2 ⟨j, hj⟩ e⟩, h8⟩
  · rintro ⟨h, h8⟩
    exact ⟨fun i => ⟨(h i.1 i.2 i.2).1, (h i.1 i.2 i.2).2.1, fun j e => (h i.1 i.2 i.2).2.2 j.1 j.2 e⟩, h8⟩
theorem nodesIB_no {l : List NodeD} {next : Int} (h : ¬ (nodesTo l next l.length ∧ l.length ≤ 8)) : nodesIB l next = false := by
  cases e : nodesIB l next
  · rfl
  · exact absurd ((nodesIB_iff l next).1 e) h
theorem nodesIB_yes {l : List NodeD} {next : Int} (h : nodesTo l next l.length ∧ l.length ≤ 8) : nodesIB l next = true := (nodesIB_iff l next).2 h

set_option maxRecDepth 100000 in
set_option maxHeartbeats 2000000 in
theorem nodesOk_ok (a : Option Addr) (n cap : Nat) (l : List NodeD) (next : Int) (w : World) (hr : Reads (.sl shNode) w [.slice a n cap] l) :
    Calls Tryz.prog 85 #[.slice a n cap, .int .i64 next] w fun e w' => e = .returned (.bool (nodesIB l next)) ∧ Below w.heap.size w w' := by
  obtain ⟨hl0, hc1, hc2⟩ := reads_len hr
  have hl : List.length (α := NodeD) l = n := hl0
  unfold maxLen at hc2
  have HR : Hid (Reads (.sl shNode) w [.slice a n cap] l) := hr
  have HL : Hid (List.length (α := NodeD) l = n) := hl
  clear hr hl hl0
  go_enter Tryz.func85, Tryz.ntmps85
  go_wp2
  go_loopw [5, 10] (fun v i wr => ∃ (k : Nat) (y : Int), k ≤ n ∧ v = .int .i64 y ∧ i = .int .i64 k ∧ Below w.heap.size w wr ∧ Hid (nodesTo l next k ∧ lastId l k y)) (fun _ i _ => n - (intOf i).toNat)
  case atStart => exact ⟨0, 0, Nat.zero_le _, rfl, rfl, Below.refl _ _, fun i _ h => by omega, .inl ⟨rfl, rfl⟩⟩
  case round =>
    obtain ⟨k, y, hk, rfl, rfl, hbel, hx0⟩ := hrel
    have hbs := hbel.size
    by_cases hlt : k < n
    · obtain ⟨b, off, cc, x, rfl, hb, hx, hrx, hcell⟩ := reads_elem HR.out k hlt
      obtain ⟨p1, m1, k1, p2, m2, k2, rfl, _, _⟩ := open_Node hrx
      obtain ⟨hkd, hxe⟩ := at_some' hx
      obtain ⟨y0, ey0⟩ : ∃ y : Int, y = x.1 := ⟨_, rfl⟩
      have hy0 : (l[k]'hkd).1 = y0 := by rw [ey0]; exact congrArg Prod.fst hxe
      have g0 : wr.cell? ⟨b, off + k * 3, none⟩ = some (.int .i64 y0) := by rw [ey0]; exact (hbel.cell (p := ⟨b, off + (k * 3 + 0), none⟩) hb).trans (hcell 0 (by decide))
      have g1 : wr.cell? ⟨b, off + k * 3 + 1, none⟩ = some (.slice p1 m1 k1) := (hbel.cell (p := ⟨b, off + (k * 3 + 1), none⟩) hb).trans (hcell 1 (by decide))
      have g2 : wr.cell? ⟨b, off + k * 3 + 2, none⟩ = some (.slice p2 m2 k2) := (hbel.cell (p := ⟨b, off + (k * 3 + 2), none⟩) hb).trans (hcell 2 (by decide))
      have bA : Below w.heap.size w (wr.alloc (.cells #[.int .i64 y0, .slice p1 m1 k1, .slice p2 m2 k2] 70)) := hbel.alloc hbs _
      have HY : Hid ((l[k]'hkd).1 = y0) := hy0
      clear hcell hrx hx hxe ey0 hy0
      by_cases z1 : y0 ≤ y
      · have EE : Hid (nodesIB l next = false) := nodesIB_no (fun h => by
          have h1 := h.1 k hkd (by have := HL.out; omega)
          rw [HY.out] at h1
          rcases hx0.out.2 with ⟨_, e⟩ | ⟨j, hj, e1, e2⟩
          · omega
          · have := h1.2.2 j hj e1.symm; omega)
        clear hx0
        go_wp2
        go_ret
        exact ⟨by rw [EE.out]; rfl, bA⟩
      by_cases z2 : next ≤ y0
      · have EE : Hid (nodesIB l next = false) := nodesIB_no (fun h => by
          have h1 := h.1 k hkd (by have := HL.out; omega)
          rw [HY.out] at h1
          omega)
        clear hx0
        go_wp2
        go_ret
        exact ⟨by rw [EE.out]; rfl, bA⟩
      have HX : Hid (nodesTo l next (k + 1) ∧ lastId l (k + 1) y0) := by
        have hpos : 1 ≤ y0 := by
          rcases hx0.out.2 with ⟨_, e⟩ | ⟨j, hj, e1, e2⟩
          · omega
          · have := (hx0.out.1 j hj (by omega)).1; omega
        refine ⟨nodesTo_succ hx0.out.1 hkd (by rw [HY.out]; exact hpos) (by rw [HY.out]; omega) (fun i hi e => ?_), .inr ⟨k, hkd, rfl, HY.out.symm⟩⟩
        rw [HY.out]
        rcases hx0.out.2 with ⟨e0, _⟩ | ⟨j, hj, e1, e2⟩
        · omega
        · obtain rfl : i = j := by omega
          omega
      clear hx0 HY
      go_wp2
      go_roundw
      case rel => exact ⟨k + 1, y0, by omega, rfl, by go_num, bA, HX⟩
      case measure => simp [intOf]; omega
    · have e : k = n := by omega
      have h2 := hx0.out.1
      rw [show k = l.length by have := HL.out; omega] at h2
      have HN : Hid (nodesTo l next l.length) := h2
      have EV : Hid (nodesIB l next = decide ((n : Int) ≤ 8)) := by
        show _ = _
        by_cases h8 : (n : Int) ≤ 8
        · rw [decide_eq_true h8]; exact nodesIB_yes ⟨HN.out, by have := HL.out; omega⟩
        · rw [decide_eq_false h8]; exact nodesIB_no (fun h => by have := HL.out; omega)
      clear hx0 h2 HN
      go_wp2
      go_ret
      exact ⟨by rw [EV.out]; rfl, hbel⟩

/-- The first k links have names that rise. -/
def namesTo (l : List LinkD) (k : Nat) : Prop := ∀ i (hi : i < l.length), i < k → isName (l[i]).1 ∧ ∀ j (hj : j < l.length), j + 1 = i → ltS (l[j]).1 (l[i]).1 = true
theorem namesTo_succ {l : List LinkD} {k : Nat} (h : namesTo l k) (hk : k < l.length) (h1 : isName (l[k]).1) (h3 : ∀ j (hj : j < l.length), j + 1 = k → ltS (l[j]).1 (l[k]).1 = true) : namesTo l (k + 1) := by
  intro i hi hik
  by_cases e : i = k
  · subst e; exact ⟨h1, h3⟩
  · exact h i hi (by omega)
def lastName (l : List LinkD) (k : Nat) (v : ByteArray) : Prop := (k = 0 ∧ v = noText) ∨ ∃ j, ∃ hj : j < l.length, k = j + 1 ∧ v = (l[j]).1
/-- The word of keptOk. -/
def keptIB (l : List LinkD) : Bool :=
  decide (∀ i : Fin l.length, nameB (l[i.1]).1 = true ∧ ∀ j : Fin l.length, j.1 + 1 = i.1 → ltS (l[j.1]).1 (l[i.1]).1 = true)
theorem keptIB_iff (l : List LinkD) : keptIB l = true ↔ namesTo l l.length := by
  unfold keptIB namesTo
  simp only [decide_eq_true_eq]
  constructor
  · intro h i hi _
    exact ⟨(nameB_iff _).1 (h ⟨i, hi⟩).1, fun j hj e => (h ⟨i, hi⟩).2 ⟨j, hj⟩ e⟩
  · intro h i
    exact ⟨(nameB_iff _).2 (h i.1 i.2 i.2).1, fun j e => (h i.1 i.2 i.2).2 j.1 j.2 e⟩
theorem keptIB_no {l : List LinkD} (h : ¬ namesTo l l.length) : keptIB l = false := by
  cases e : keptIB l
  · rfl
  · exact absurd ((keptIB_iff l).1 e) h
theorem keptIB_yes {l : List LinkD} (h : namesTo l l.length) : keptIB l = true := (keptIB_iff l).2 h

theorem ltS_noText {s : ByteArray} (h : isName s) : ltS noText s = true := by
  unfold ltS
  rw [noText_list]
  cases e : s.toList with
  | nil =>
    have h1 := h.1
    have h2 : s.toList.length = s.size := by rw [ByteArray.toList_eq]; simp
    rw [e] at h2
    simp at h2
    omega
  | cons a r => rfl

set_option maxRecDepth 100000 in
set_option maxHeartbeats 2000000 in
theorem keptOk_ok (a : Option Addr) (n cap : Nat) (l : List LinkD) (w : World) (hr : Reads (.sl shLink) w [.slice a n cap] l) :
    Calls Tryz.prog 86 #[.slice a n cap] w fun e w' => e = .returned (.bool (keptIB l)) ∧ Below w.heap.size w w' := by
  obtain ⟨hl0, hc1, hc2⟩ := reads_len hr
  have hl : List.length (α := LinkD) l = n := hl0
  unfold maxLen at hc2
  have HR : Hid (Reads (.sl shLink) w [.slice a n cap] l) := hr
  have HL : Hid (List.length (α := LinkD) l = n) := hl
  clear hr hl hl0
  go_enter Tryz.func86, Tryz.ntmps86
  go_wp2
  go_loopw [3, 8] (fun v i wr => ∃ (k : Nat) (y : ByteArray), k ≤ n ∧ v = .string y ∧ i = .int .i64 k ∧ Below w.heap.size w wr ∧ Hid (namesTo l k ∧ lastName l k y)) (fun _ i _ => n - (intOf i).toNat)
  case atStart => exact ⟨0, noText, Nat.zero_le _, rfl, rfl, Below.refl _ _, fun i _ h => by omega, .inl ⟨rfl, rfl⟩⟩
  case round =>
    obtain ⟨k, y, hk, rfl, rfl, hbel, hx0⟩ := hrel
    have hbs := hbel.size
    by_cases hlt : k < n
    · obtain ⟨b, off, cc, x, rfl, hb, hx, hrx, hcell⟩ := reads_elem HR.out k hlt
      obtain ⟨rfl, hys⟩ := open_Link hrx
      obtain ⟨hkd, hxe⟩ := at_some' hx
      obtain ⟨y0, ey0⟩ : ∃ y : ByteArray, y = x.1 := ⟨_, rfl⟩
      obtain ⟨y1, ey1⟩ : ∃ y : Int, y = x.2.1 := ⟨_, rfl⟩
      have hy0 : (l[k]'hkd).1 = y0 := by rw [ey0]; exact congrArg Prod.fst hxe
      have g0 : wr.cell? ⟨b, off + k * 2, none⟩ = some (.string y0) := by rw [ey0]; exact (hbel.cell (p := ⟨b, off + (k * 2 + 0), none⟩) hb).trans (hcell 0 (by decide))
      have g1 : wr.cell? ⟨b, off + k * 2 + 1, none⟩ = some (.int .i64 y1) := by rw [ey1]; exact (hbel.cell (p := ⟨b, off + (k * 2 + 1), none⟩) hb).trans (hcell 1 (by decide))
      rw [← ey0] at hys
      have bA : Below w.heap.size w (wr.alloc (.cells #[.string y0, .int .i64 y1] 111)) := hbel.alloc hbs _
      have HY : Hid ((l[k]'hkd).1 = y0) := hy0
      clear hcell hrx hx hxe ey0 ey1 hy0
      cases hN : nameB y0 with
      | false =>
        have EE : Hid (keptIB l = false) := keptIB_no (fun h => by
          have h1 := (h k hkd (by have := HL.out; omega)).1
          rw [HY.out] at h1
          exact (nameB_not y0).1 hN h1)
        clear hx0
        go_wp2_with fail
        refine (implNameB _ _ hys).mono ?_
        rintro e w9 ⟨rfl, rfl⟩
        rw [hN]
        go_wp2
        go_ret
        exact ⟨by rw [EE.out]; rfl, bA⟩
      | true =>
      cases hq : ltS y y0 with
      | false =>
        have EE : Hid (keptIB l = false) := keptIB_no (fun h => by
          have h1 := (h k hkd (by have := HL.out; omega))
          rw [HY.out] at h1
          rcases hx0.out.2 with ⟨_, e⟩ | ⟨j, hj, e1, e2⟩
          · rw [e, ltS_noText h1.1] at hq; cases hq
          · have := h1.2 j hj e1.symm; rw [← e2, hq] at this; cases this)
        clear hx0
        rcases ltS_not hq with q | rfl
        · clear hq
          go_wp2_with fail
          refine (implNameB _ _ hys).mono ?_
          rintro e w9 ⟨rfl, rfl⟩
          rw [hN]
          go_wp2
          go_ret
          exact ⟨by rw [EE.out]; rfl, bA⟩
        · have q1 := bytesLess_irrefl y0.toList
          have q2 : (y0.toList == y0.toList) = true := by simp
          clear hq
          go_wp2_with fail
          refine (implNameB _ _ hys).mono ?_
          rintro e w9 ⟨rfl, rfl⟩
          rw [hN]
          go_wp2
          go_ret
          exact ⟨by rw [EE.out]; rfl, bA⟩
      | true =>
        obtain ⟨q1, q2⟩ := ltS_gt hq
        have HX : Hid (namesTo l (k + 1) ∧ lastName l (k + 1) y0) := by
          refine ⟨namesTo_succ hx0.out.1 hkd (by rw [HY.out]; exact (nameB_iff y0).1 hN) (fun j hj e => ?_), .inr ⟨k, hkd, rfl, HY.out.symm⟩⟩
          rw [HY.out]
          rcases hx0.out.2 with ⟨e0, _⟩ | ⟨j', hj', e1, e2⟩
          · omega
          · obtain rfl : j = j' := by omega
            rw [← e2]; exact hq
        clear hx0 HY hq
        go_wp2_with fail
        refine (implNameB _ _ hys).mono ?_
        rintro e w9 ⟨rfl, rfl⟩
        rw [hN]
        go_wp2
        go_roundw
        case rel => exact ⟨k + 1, y0, by omega, rfl, by go_num, bA, HX⟩
        case measure => simp [intOf]; omega
    · have h2 := hx0.out.1
      rw [show k = l.length by have := HL.out; omega] at h2
      have EV : Hid (keptIB l = true) := keptIB_yes h2
      clear hx0 h2
      go_wp2
      go_ret
      exact ⟨by rw [EV.out]; rfl, hbel⟩

end Go.Proofs.YtkaegbhmeonjfaaGreat

/- MapO: A map from texts to ints, read as a directory ('MapIs'): what it is to look into it, to store into it, to delete from it. -/
namespace Go.Proofs.YtkaegbhmeonjfaaGreat
open Go.RowKit Go.Maps
open Go.MapKept Go.ChangeMaps
set_option linter.unusedVariables false
set_option maxRecDepth 100000

/-- How an int in the map reads, whatever it is. -/
def anyInt : Value → Option (DataW Unit × List MemPlace)
  | .int .i64 a => some (.lit (.int .i64 a), [])
  | _ => none

theorem anyInt_mk (a : Int) : anyInt (.int .i64 a) = some (.lit (.int .i64 a), []) := rfl
theorem anyInt_inv {v : Value} {z : DataW Unit × List MemPlace} (h : anyInt v = some z) : ∃ a, v = .int .i64 a ∧ z = (.lit (.int .i64 a), []) := by
  unfold anyInt at h
  split at h
  · exact ⟨_, rfl, (Option.some.inj h).symm⟩
  · cases h

/-- A text as a key. -/
def keyS (s : ByteArray) : Lit := .string s.data.toList
theorem keyS_inj {s t : ByteArray} (h : s ≠ t) : keyS s ≠ keyS t := fun e => by
  unfold keyS at e
  simp only [Lit.string.injEq] at e
  exact h (ByteArray.ext (Array.toList_inj.1 e))
theorem keyS_lit (s : ByteArray) : WideAt.IsKeyLit (keyS s) := by simp [keyS, WideAt.IsKeyLit]

theorem lawS : Keyed Tryz.prog 9 := string_keyed Tryz.underlying9
theorem zeroI (w : World) : (zeroValue 3).run Tryz.prog w = .ok (.int .i64 0) w := by kernel_rfl
theorem keyOfS {s : ByteArray} (hs : s.size ≤ maxLen) : keyOf Tryz.prog 9 (.string s) = some (keyS s) := Go.WideMaps.keyOf_string_mk Tryz.underlying9 hs

/-- Block b is a map of at most n entries that links as the list l does. -/
def MapIs (w : World) (b n : Nat) (l : List LinkD) : Prop :=
  ∃ D : DataW Unit, w.ownsMap Tryz.prog 9 anyInt b n D ∧ ∀ s : ByteArray, Maps.has D (keyS s) = hasL l s ∧ D.atKey (keyS s) (.lit (.int .i64 0)) = .lit (.int .i64 (findL l s))

theorem MapIs.alike {w : World} {b n : Nat} {l m : List LinkD} (h : MapIs w b n l) (ha : Alike l m) : MapIs w b n m := by
  obtain ⟨D, ho, hs⟩ := h
  exact ⟨D, ho, fun s => ⟨(hs s).1.trans (ha s).1, (hs s).2.trans (by rw [(ha s).2])⟩⟩
theorem MapIs.mono {w : World} {b n m : Nat} {l : List LinkD} (h : MapIs w b n l) (hn : n ≤ m) : MapIs w b m l := by
  obtain ⟨D, ho, hs⟩ := h
  exact ⟨D, ho.mono hn, hs⟩
theorem MapIs.kept {w w' : World} {b n : Nat} {l : List LinkD} {row : Option Nat} (h : MapIs w b n l) (hg : w.grownBy w' row) (hne : some b ≠ row) : MapIs w' b n l := by
  obtain ⟨D, ho, hs⟩ := h
  exact ⟨D, ho.kept hg hne, hs⟩
theorem MapIs.lt {w : World} {b n : Nat} {l : List LinkD} (h : MapIs w b n l) : b < w.heap.size := by
  obtain ⟨D, ho, hs⟩ := h
  exact ho.lt
theorem MapIs.later {w w' : World} {b n : Nat} {l : List LinkD} (h : MapIs w b n l) (hb : Below w.heap.size w w') : MapIs w' b n l := h.kept (below_grown hb) (by simp)
theorem MapIs.alloc {w : World} {b n : Nat} {l : List LinkD} (h : MapIs w b n l) (o : Obj) : MapIs (w.alloc o) b n l := h.kept (World.grownBy_alloc w o none) (by simp)
theorem MapIs.made (w : World) : MapIs (w.alloc (.map #[] 0)) w.heap.size 0 [] := ⟨.map [], World.ownsMap_made _ _ _ _, fun s => ⟨rfl, rfl⟩⟩

section
variable (w : World) {ops : Array Oper} {rest : List Oper} {o : Oper} {a : Act} {Q : Exit → Act → World → Prop}

theorem wp_look_ok (hg : o.guard = none) (m x : Operand) (hop : o.op = Op.lookup 77 m x true) (b n : Nat) (l : List LinkD)
    (hm : a.eval m = .map (some b)) (hown : MapIs w b n l) (s : ByteArray) (hx : a.eval x = .string s) (hs : s.size ≤ maxLen)
    (hK : wpList Tryz.prog ops Q rest (a.put o.dst (.tuple #[.int .i64 (findL l s), .bool (hasL l s)])) w) : wpList Tryz.prog ops Q (o :: rest) a w := by
  obtain ⟨D, ho, hD⟩ := hown
  refine wpList_lookup_own_ok w hg m x 77 hop 9 3 lawS Tryz.underlying77 anyInt (zeroI w) (.lit (.int .i64 0)) [] (anyInt_mk 0) b n D hm ho (.string s) (keyS s) hx (keyOfS hs) ?_
  intro v ps hv
  obtain ⟨c, rfl, hc⟩ := anyInt_inv hv
  have h1 := congrArg Prod.fst hc
  simp only [(hD s).2] at h1
  injection h1 with h1
  injection h1 with _ h1
  rw [← h1, (hD s).1]
  exact hK

theorem wp_look (hg : o.guard = none) (m x : Operand) (hop : o.op = Op.lookup 77 m x false) (b n : Nat) (l : List LinkD)
    (hm : a.eval m = .map (some b)) (hown : MapIs w b n l) (s : ByteArray) (hx : a.eval x = .string s) (hs : s.size ≤ maxLen)
    (hK : wpList Tryz.prog ops Q rest (a.put o.dst (.int .i64 (findL l s))) w) : wpList Tryz.prog ops Q (o :: rest) a w := by
  obtain ⟨D, ho, hD⟩ := hown
  refine wpList_plain hg fun K' hK' => ?_
  obtain ⟨v, ps, hrun, hv⟩ := ho.lookup lawS Tryz.underlying77 (zeroI w) (anyInt_mk 0) (keyOfS hs)
  obtain ⟨c, rfl, hc⟩ := anyInt_inv hv
  have h1 := congrArg Prod.fst hc
  simp only [(hD s).2] at h1
  injection h1 with h1
  injection h1 with _ h1
  rw [← h1] at hrun
  unfold Oper.wp
  simp [execOp, hop, hm, hx, hrun, Result.andThen]
  exact hK' _ _ hK

theorem wp_store (hg : o.guard = none) (m x v : Operand) (hop : o.op = Op.mapUpdate 77 m x v) (b n : Nat) (l : List LinkD)
    (hm : a.eval m = .map (some b)) (hown : MapIs w b n l) (hn : n < maxLen) (s : ByteArray) (id : Int) (hx : a.eval x = .string s) (hv : a.eval v = .int .i64 id) (hs : s.size ≤ maxLen)
    (hK : ∀ w', MapIs w' b (n + 1) ((s, id, ()) :: l) → w.grownBy w' (some b) → wpList Tryz.prog ops Q rest (a.put o.dst undef) w') : wpList Tryz.prog ops Q (o :: rest) a w := by
  obtain ⟨D, ho, hD⟩ := hown
  refine wpList_mapUpdate_own w hg m x v 77 hop 9 3 lawS Tryz.underlying77 anyInt b n D hm ho hn (.string s) (.int .i64 id) (keyS s) hx hv (keyOfS hs) (.lit (.int .i64 id)) [] (anyInt_mk id) ?_
  intro w' h1 h2
  refine hK w' ⟨_, h1, fun t => ?_⟩ h2
  rw [hasL_cons, findL_cons]
  by_cases e : s = t
  · subst e
    simp only [decide_true, Bool.true_or, if_true]
    exact ⟨has_put_same ho.isMap (keyS_lit s) _, atKey_put_same ho.isMap (keyS_lit s) _ _⟩
  · have e' : keyS t ≠ keyS s := keyS_inj (fun h => e h.symm)
    simp only [e, decide_false, Bool.false_or, if_false]
    exact ⟨(has_put_other e' _).trans (hD t).1, (atKey_put_other e' _ _).trans (hD t).2⟩

theorem wp_delete (hg : o.guard = none) (m x : Operand) (hop : o.op = Op.call { callee := Callee.builtin Builtin.delete, args := #[m, x], argTypes := #[77, 9] }) (b n : Nat) (l : List LinkD)
    (hm : a.eval m = .map (some b)) (hown : MapIs w b n l) (s : ByteArray) (hx : a.eval x = .string s) (hs : s.size ≤ maxLen)
    (hK : ∀ w', MapIs w' b n (lessL l s) → w.grownBy w' (some b) → wpList Tryz.prog ops Q rest (a.put o.dst (.tuple #[])) w') : wpList Tryz.prog ops Q (o :: rest) a w := by
  obtain ⟨D, ho, hD⟩ := hown
  refine wpList_delete_own w hg m x 77 9 hop 3 lawS Tryz.underlying77 anyInt b n D hm ho (.string s) (keyS s) hx (keyOfS hs) ?_
  intro w' h1 h2
  refine hK w' ⟨_, h1, fun t => ?_⟩ h2.grown
  rw [hasL_less, findL_less]
  by_cases e : t = s
  · subst e
    simp only [ne_eq, not_true_eq_false, decide_false, Bool.false_and, if_true]
    exact ⟨has_del_same, atKey_del_same _⟩
  · have e' : keyS t ≠ keyS s := keyS_inj e
    simp only [ne_eq, e, not_false_eq_true, decide_true, Bool.true_and, if_false]
    exact ⟨(has_del_other e').trans (hD t).1, (atKey_del_other e' _).trans (hD t).2⟩

end
end Go.Proofs.YtkaegbhmeonjfaaGreat

/- TurnI: turnOk, turnFits, makeTurn of the program. By program (turnIgen). -/
namespace Go.Proofs.YtkaegbhmeonjfaaGreat
open Go.RowKit Go.Maps
set_option linter.unusedVariables false
set_option maxRecDepth 100000

/-- The word of turnOk. -/
def okIB (t : TurnD) : Bool :=
  if t.1 = 1 then nameB t.2.1 && t.2.2.1.toList.isEmpty else if t.1 = 5 then nameB t.2.1 && nameB t.2.2.1 && decide (t.2.2.2.1 = 0) else if t.1 = 6 then nameB t.2.1 && t.2.2.1.toList.isEmpty && decide (t.2.2.2.1 = 0) else false
/-- The word of turnFits. -/
def fitsB (l : List LinkD) (t : TurnD) : Bool :=
  if t.1 = 1 then !hasL l t.2.1 else if t.1 = 5 then hasL l t.2.1 && !(t.2.2.1.toList == t.2.1.toList) else hasL l t.2.1

theorem okIB_iff (t : TurnD) : okIB t = true ↔ turnOkI t := by
  obtain ⟨k, x1, x2, x3, u⟩ := t
  unfold okIB turnOkI
  by_cases k1 : k = 1
  · subst k1; simp [nameB_iff, empty_iff]
  · by_cases k5 : k = 5
    · subst k5; simp [nameB_iff, and_assoc]
    · by_cases k6 : k = 6
      · subst k6; simp [nameB_iff, empty_iff, and_assoc]
      · simp [k1, k5, k6]
theorem fitsB_iff (l : List LinkD) (t : TurnD) : fitsB l t = true ↔ turnFitsI l t := by
  obtain ⟨k, x1, x2, x3, u⟩ := t
  have hne : ((x2.toList == x1.toList) = false) ↔ x2 ≠ x1 := ⟨fun h e => by subst e; simp at h, fun h => str_neq h⟩
  unfold fitsB turnFitsI
  by_cases k1 : k = 1
  · subst k1; simp
  · by_cases k5 : k = 5
    · subst k5; simp [hne]
    · simp [k1, k5]

theorem okIB_eq (k : Int) (x1 x2 : ByteArray) (x3 : Int) : okIB (k, x1, x2, x3, ()) =
    (if k = 1 then nameB x1 && x2.toList.isEmpty else if k = 5 then nameB x1 && nameB x2 && decide (x3 = 0) else if k = 6 then nameB x1 && x2.toList.isEmpty && decide (x3 = 0) else false) := rfl

theorem fitsB_eq (l : List LinkD) (k : Int) (x1 x2 : ByteArray) (x3 : Int) (h : Bool) (hh : hasL l x1 = h) : fitsB l (k, x1, x2, x3, ()) =
    (if k = 1 then !h else if k = 5 then h && !(x2.toList == x1.toList) else h) := by
  subst hh; rfl

set_option maxRecDepth 100000 in
set_option maxHeartbeats 2000000 in
theorem turnOk1 (x1 x2 : ByteArray) (x3 : Int) (w : World) (h1 : x1.size ≤ maxLen) (h2 : x2.size ≤ maxLen) :
    Calls Tryz.prog 117 #[.agg #[.int .i64 1, .string x1, .string x2, .int .i64 x3]] w fun e w' => e = .returned (.bool (okIB (1, x1, x2, x3, ()))) ∧ Below w.heap.size w w' := by
  have E : Hid (okIB (1, x1, x2, x3, ()) = _) := okIB_eq 1 x1 x2 x3
  go_enter Tryz.func117, Tryz.ntmps117
  go_wp2_with (go_at_call 116; refine (implNameB _ _ (by assumption)).mono ?_; rintro e w9 ⟨rfl, rfl⟩)
  all_goals (go_ret; refine ⟨?_, (Below.refl _ _).alloc (Nat.le_refl _) _⟩)
  all_goals (rw [E.out]; clear E; show Ending.returned (Value.bool _) = Ending.returned (Value.bool _))
  all_goals (by_cases hy : x3 = 0 <;> (try subst hy) <;> first | (simp_all; done) | (simp_all; omega))

set_option maxRecDepth 100000 in
set_option maxHeartbeats 2000000 in
theorem turnOk5 (x1 x2 : ByteArray) (x3 : Int) (w : World) (h1 : x1.size ≤ maxLen) (h2 : x2.size ≤ maxLen) :
    Calls Tryz.prog 117 #[.agg #[.int .i64 5, .string x1, .string x2, .int .i64 x3]] w fun e w' => e = .returned (.bool (okIB (5, x1, x2, x3, ()))) ∧ Below w.heap.size w w' := by
  have E : Hid (okIB (5, x1, x2, x3, ()) = _) := okIB_eq 5 x1 x2 x3
  go_enter Tryz.func117, Tryz.ntmps117
  go_wp2_with (go_at_call 116; refine (implNameB _ _ (by assumption)).mono ?_; rintro e w9 ⟨rfl, rfl⟩)
  all_goals (go_ret; refine ⟨?_, (Below.refl _ _).alloc (Nat.le_refl _) _⟩)
  all_goals (rw [E.out]; clear E; show Ending.returned (Value.bool _) = Ending.returned (Value.bool _))
  all_goals (by_cases hy : x3 = 0 <;> (try subst hy) <;> first | (simp_all; done) | (simp_all; omega))

set_option maxRecDepth 100000 in
set_option maxHeartbeats 2000000 in
theorem turnOk6 (x1 x2 : ByteArray) (x3 : Int) (w : World) (h1 : x1.size ≤ maxLen) (h2 : x2.size ≤ maxLen) :
    Calls Tryz.prog 117 #[.agg #[.int .i64 6, .string x1, .string x2, .int .i64 x3]] w fun e w' => e = .returned (.bool (okIB (6, x1, x2, x3, ()))) ∧ Below w.heap.size w w' := by
  have E : Hid (okIB (6, x1, x2, x3, ()) = _) := okIB_eq 6 x1 x2 x3
  go_enter Tryz.func117, Tryz.ntmps117
  go_wp2_with (go_at_call 116; refine (implNameB _ _ (by assumption)).mono ?_; rintro e w9 ⟨rfl, rfl⟩)
  all_goals (go_ret; refine ⟨?_, (Below.refl _ _).alloc (Nat.le_refl _) _⟩)
  all_goals (rw [E.out]; clear E; show Ending.returned (Value.bool _) = Ending.returned (Value.bool _))
  all_goals (by_cases hy : x3 = 0 <;> (try subst hy) <;> first | (simp_all; done) | (simp_all; omega))

set_option maxRecDepth 100000 in
set_option maxHeartbeats 2000000 in
theorem turnOkN (k : Int) (x1 x2 : ByteArray) (x3 : Int) (w : World) (h1 : x1.size ≤ maxLen) (h2 : x2.size ≤ maxLen) (k1 : k ≠ 1) (k5 : k ≠ 5) (k6 : k ≠ 6) :
    Calls Tryz.prog 117 #[.agg #[.int .i64 k, .string x1, .string x2, .int .i64 x3]] w fun e w' => e = .returned (.bool (okIB (k, x1, x2, x3, ()))) ∧ Below w.heap.size w w' := by
  have E : Hid (okIB (k, x1, x2, x3, ()) = _) := okIB_eq k x1 x2 x3
  have q1 : (k == 1) = false := by simp [k1]
  have q5 : (k == 5) = false := by simp [k5]
  have q6 : (k == 6) = false := by simp [k6]
  go_enter Tryz.func117, Tryz.ntmps117
  go_wp2_with (go_at_call 116; refine (implNameB _ _ (by assumption)).mono ?_; rintro e w9 ⟨rfl, rfl⟩)
  all_goals (go_ret; refine ⟨?_, (Below.refl _ _).alloc (Nat.le_refl _) _⟩)
  all_goals (rw [E.out]; clear E; show Ending.returned (Value.bool _) = Ending.returned (Value.bool _))
  all_goals (by_cases hy : x3 = 0 <;> (try subst hy) <;> first | (simp_all; done) | (simp_all; omega))

theorem turnOk_any (k : Int) (x1 x2 : ByteArray) (x3 : Int) (w : World) (h1 : x1.size ≤ maxLen) (h2 : x2.size ≤ maxLen) :
    Calls Tryz.prog 117 #[.agg #[.int .i64 k, .string x1, .string x2, .int .i64 x3]] w fun e w' => e = .returned (.bool (okIB (k, x1, x2, x3, ()))) ∧ Below w.heap.size w w' := by
  by_cases k1 : k = 1
  · subst k1; exact turnOk1 x1 x2 x3 w h1 h2
  by_cases k5 : k = 5
  · subst k5; exact turnOk5 x1 x2 x3 w h1 h2
  by_cases k6 : k = 6
  · subst k6; exact turnOk6 x1 x2 x3 w h1 h2
  exact turnOkN k x1 x2 x3 w h1 h2 k1 k5 k6

set_option maxRecDepth 100000 in
set_option maxHeartbeats 2000000 in
theorem turnFits1 (b n : Nat) (l : List LinkD) (x1 x2 : ByteArray) (x3 : Int) (w : World) (hm : Hid (MapIs w b n l)) (h1 : x1.size ≤ maxLen) (h2 : x2.size ≤ maxLen) :
    Calls Tryz.prog 118 #[.map (some b), .agg #[.int .i64 1, .string x1, .string x2, .int .i64 x3]] w fun e w' => e = .returned (.bool (fitsB l (1, x1, x2, x3, ()))) ∧ Below w.heap.size w w' := by
  obtain ⟨h, hh⟩ : ∃ h, hasL l x1 = h := ⟨_, rfl⟩
  have E : Hid (fitsB l (1, x1, x2, x3, ()) = _) := fitsB_eq l 1 x1 x2 x3 h hh
  go_enter Tryz.func118, Tryz.ntmps118
  go_wp2_with (at_lookup; refine wp_look_ok _ rfl _ _ rfl b n l rfl (hm.out.alloc _) x1 rfl h1 ?_)
  all_goals (go_ret; refine ⟨?_, (Below.refl _ _).alloc (Nat.le_refl _) _⟩)
  all_goals (rw [E.out]; clear E; show Ending.returned (Value.bool _) = Ending.returned (Value.bool _))
  all_goals (first | (simp_all; done) | (simp_all; omega))

set_option maxRecDepth 100000 in
set_option maxHeartbeats 2000000 in
theorem turnFits5 (b n : Nat) (l : List LinkD) (x1 x2 : ByteArray) (x3 : Int) (w : World) (hm : Hid (MapIs w b n l)) (h1 : x1.size ≤ maxLen) (h2 : x2.size ≤ maxLen) :
    Calls Tryz.prog 118 #[.map (some b), .agg #[.int .i64 5, .string x1, .string x2, .int .i64 x3]] w fun e w' => e = .returned (.bool (fitsB l (5, x1, x2, x3, ()))) ∧ Below w.heap.size w w' := by
  obtain ⟨h, hh⟩ : ∃ h, hasL l x1 = h := ⟨_, rfl⟩
  have E : Hid (fitsB l (5, x1, x2, x3, ()) = _) := fitsB_eq l 5 x1 x2 x3 h hh
  go_enter Tryz.func118, Tryz.ntmps118
  go_wp2_with (at_lookup; refine wp_look_ok _ rfl _ _ rfl b n l rfl (hm.out.alloc _) x1 rfl h1 ?_)
  all_goals (go_ret; refine ⟨?_, (Below.refl _ _).alloc (Nat.le_refl _) _⟩)
  all_goals (rw [E.out]; clear E; show Ending.returned (Value.bool _) = Ending.returned (Value.bool _))
  all_goals (first | (simp_all; done) | (simp_all; omega))

set_option maxRecDepth 100000 in
set_option maxHeartbeats 2000000 in
theorem turnFitsN (k : Int) (b n : Nat) (l : List LinkD) (x1 x2 : ByteArray) (x3 : Int) (w : World) (hm : Hid (MapIs w b n l)) (h1 : x1.size ≤ maxLen) (h2 : x2.size ≤ maxLen) (k1 : k ≠ 1) (k5 : k ≠ 5) :
    Calls Tryz.prog 118 #[.map (some b), .agg #[.int .i64 k, .string x1, .string x2, .int .i64 x3]] w fun e w' => e = .returned (.bool (fitsB l (k, x1, x2, x3, ()))) ∧ Below w.heap.size w w' := by
  obtain ⟨h, hh⟩ : ∃ h, hasL l x1 = h := ⟨_, rfl⟩
  have E : Hid (fitsB l (k, x1, x2, x3, ()) = _) := fitsB_eq l k x1 x2 x3 h hh
  have q1 : (k == 1) = false := by simp [k1]
  have q5 : (k == 5) = false := by simp [k5]
  go_enter Tryz.func118, Tryz.ntmps118
  go_wp2_with (at_lookup; refine wp_look_ok _ rfl _ _ rfl b n l rfl (hm.out.alloc _) x1 rfl h1 ?_)
  all_goals (go_ret; refine ⟨?_, (Below.refl _ _).alloc (Nat.le_refl _) _⟩)
  all_goals (rw [E.out]; clear E; show Ending.returned (Value.bool _) = Ending.returned (Value.bool _))
  all_goals (first | (simp_all; done) | (simp_all; omega))

theorem turnFits_any (b n : Nat) (l : List LinkD) (k : Int) (x1 x2 : ByteArray) (x3 : Int) (w : World) (hm : MapIs w b n l) (h1 : x1.size ≤ maxLen) (h2 : x2.size ≤ maxLen) :
    Calls Tryz.prog 118 #[.map (some b), .agg #[.int .i64 k, .string x1, .string x2, .int .i64 x3]] w fun e w' => e = .returned (.bool (fitsB l (k, x1, x2, x3, ()))) ∧ Below w.heap.size w w' := by
  by_cases k1 : k = 1
  · subst k1; exact turnFits1 b n l x1 x2 x3 w hm h1 h2
  by_cases k5 : k = 5
  · subst k5; exact turnFits5 b n l x1 x2 x3 w hm h1 h2
  exact turnFitsN k b n l x1 x2 x3 w hm h1 h2 k1 k5

set_option maxRecDepth 100000 in
set_option maxHeartbeats 2000000 in
theorem makeTurn1 (b n : Nat) (l : List LinkD) (x1 x2 : ByteArray) (x3 : Int) (w : World) (hm : Hid (MapIs w b n l)) (h1 : x1.size ≤ maxLen) (h2 : x2.size ≤ maxLen) (hn : n ≤ 100000000) :
    Calls Tryz.prog 96 #[.map (some b), .agg #[.int .i64 1, .string x1, .string x2, .int .i64 x3]] w fun e w' => e = .returned (.tuple #[]) ∧ MapIs w' b (n + 1) ((x1, x3, ()) :: l) ∧ w.grownBy w' (some b) := by
  have hbx := heap_alloc_new w (.cells #[.int .i64 1, .string x1, .string x2, .int .i64 x3] 93)
  have hbne : w.heap.size ≠ b := by have := hm.out.lt; omega
  go_enter Tryz.func96, Tryz.ntmps96
  go_wp2_with (at_mapUpdate; refine wp_store _ rfl _ _ _ rfl b n _ rfl (hm.out.alloc _) (by unfold maxLen; omega) x1 x3 rfl rfl (by assumption) ?_)
  intro w1 hm1 hg1
  have HM : Hid (MapIs w1 b (n + 1) ((x1, x3, ()) :: l) ∧ w.grownBy w1 (some b)) := ⟨hm1, (World.grownBy_alloc w _ _).trans hg1⟩
  clear hm1 hg1
  go_wp2
  go_returns
  exact ⟨rfl, HM.out.1, HM.out.2⟩

set_option maxRecDepth 100000 in
set_option maxHeartbeats 2000000 in
theorem makeTurn6 (b n : Nat) (l : List LinkD) (x1 x2 : ByteArray) (x3 : Int) (w : World) (hm : Hid (MapIs w b n l)) (h1 : x1.size ≤ maxLen) (h2 : x2.size ≤ maxLen) (hn : n ≤ 100000000) :
    Calls Tryz.prog 96 #[.map (some b), .agg #[.int .i64 6, .string x1, .string x2, .int .i64 x3]] w fun e w' => e = .returned (.tuple #[]) ∧ MapIs w' b (n + 1) (lessL l x1) ∧ w.grownBy w' (some b) := by
  have hbx := heap_alloc_new w (.cells #[.int .i64 6, .string x1, .string x2, .int .i64 x3] 93)
  have hbne : w.heap.size ≠ b := by have := hm.out.lt; omega
  go_enter Tryz.func96, Tryz.ntmps96
  go_wp2_with (at_delete; refine wp_delete _ rfl _ _ rfl b n _ rfl (hm.out.alloc _) x1 rfl (by assumption) ?_)
  intro w1 hm1 hg1
  have HM : Hid (MapIs w1 b (n + 1) (lessL l x1) ∧ w.grownBy w1 (some b)) := ⟨hm1.mono (by omega), (World.grownBy_alloc w _ _).trans hg1⟩
  clear hm1 hg1
  go_wp2
  go_returns
  exact ⟨rfl, HM.out.1, HM.out.2⟩

set_option maxRecDepth 100000 in
set_option maxHeartbeats 2000000 in
theorem makeTurn5 (b n : Nat) (l : List LinkD) (x1 x2 : ByteArray) (x3 : Int) (w : World) (hm : Hid (MapIs w b n l)) (h1 : x1.size ≤ maxLen) (h2 : x2.size ≤ maxLen) (hn : n ≤ 100000000) :
    Calls Tryz.prog 96 #[.map (some b), .agg #[.int .i64 5, .string x1, .string x2, .int .i64 x3]] w fun e w' => e = .returned (.tuple #[]) ∧ MapIs w' b (n + 1) (lessL ((x2, findL l x1, ()) :: l) x1) ∧ w.grownBy w' (some b) := by
  have hbx := heap_alloc_new w (.cells #[.int .i64 5, .string x1, .string x2, .int .i64 x3] 93)
  have hbne : w.heap.size ≠ b := by have := hm.out.lt; omega
  go_enter Tryz.func96, Tryz.ntmps96
  go_wp2_with (first | (at_lookup; refine wp_look _ rfl _ _ rfl b n _ rfl (hm.out.alloc _) x1 rfl (by assumption) ?_) | ((at_mapUpdate; refine wp_store _ rfl _ _ _ rfl b n _ rfl (hm.out.alloc _) (by unfold maxLen; omega) x2 (findL l x1) rfl rfl (by assumption) ?_); intro w1 hm1 hg1; have c1 : w1.cell? ⟨w.heap.size, 1, none⟩ = some (.string x1) := hg1.cell (box_cell hbx rfl) (by simp; exact hbne); have c0 : w1.cell? ⟨w.heap.size, 0, none⟩ = some (.int .i64 5) := hg1.cell (box_cell hbx rfl) (by simp; exact hbne); have HM : Hid (MapIs w1 b (n + 1) ((x2, findL l x1, ()) :: l) ∧ w.grownBy w1 (some b)) := ⟨hm1, (World.grownBy_alloc w _ _).trans hg1⟩; clear hm1 hg1 hbx) | (at_delete; refine wp_delete _ rfl _ _ rfl b (n + 1) _ rfl HM.out.1 x1 rfl (by assumption) ?_))
  intro w2 hm2 hg2
  have HM2 : Hid (MapIs w2 b (n + 1) (lessL ((x2, findL l x1, ()) :: l) x1) ∧ w.grownBy w2 (some b)) := ⟨hm2, HM.out.2.trans hg2⟩
  clear hm2 hg2 c0 c1
  go_wp2
  go_returns
  exact ⟨rfl, HM2.out.1, HM2.out.2⟩

set_option maxRecDepth 100000 in
set_option maxHeartbeats 2000000 in
theorem makeTurnN (k : Int) (b n : Nat) (l : List LinkD) (x1 x2 : ByteArray) (x3 : Int) (w : World) (hm : Hid (MapIs w b n l)) (h1 : x1.size ≤ maxLen) (h2 : x2.size ≤ maxLen) (hn : n ≤ 100000000) (k1 : k ≠ 1) (k5 : k ≠ 5) (k6 : k ≠ 6) :
    Calls Tryz.prog 96 #[.map (some b), .agg #[.int .i64 k, .string x1, .string x2, .int .i64 x3]] w fun e w' => e = .returned (.tuple #[]) ∧ MapIs w' b (n + 1) (l) ∧ w.grownBy w' (some b) := by
  have q1 : (k == 1) = false := by simp [k1]
  have q5 : (k == 5) = false := by simp [k5]
  have q6 : (k == 6) = false := by simp [k6]
  have hbx := heap_alloc_new w (.cells #[.int .i64 k, .string x1, .string x2, .int .i64 x3] 93)
  have hbne : w.heap.size ≠ b := by have := hm.out.lt; omega
  go_enter Tryz.func96, Tryz.ntmps96
  go_wp2
  go_returns
  exact ⟨rfl, (hm.out.mono (by omega)).alloc _, World.grownBy_alloc w _ _⟩

theorem makeTurn_any (b n : Nat) (l : List LinkD) (k : Int) (x1 x2 : ByteArray) (x3 : Int) (w : World) (hm : MapIs w b n l) (h1 : x1.size ≤ maxLen) (h2 : x2.size ≤ maxLen) (hn : n ≤ 100000000) :
    Calls Tryz.prog 96 #[.map (some b), .agg #[.int .i64 k, .string x1, .string x2, .int .i64 x3]] w fun e w' => e = .returned (.tuple #[]) ∧ MapIs w' b (n + 1) (turnI l (k, x1, x2, x3, ())) ∧ w.grownBy w' (some b) := by
  by_cases k1 : k = 1
  · subst k1; exact makeTurn1 b n l x1 x2 x3 w hm h1 h2 hn
  by_cases k5 : k = 5
  · subst k5; exact makeTurn5 b n l x1 x2 x3 w hm h1 h2 hn
  by_cases k6 : k = 6
  · subst k6; exact makeTurn6 b n l x1 x2 x3 w hm h1 h2 hn
  rw [show turnI l (k, x1, x2, x3, ()) = l by unfold turnI; rw [if_neg k1, if_neg k5, if_neg k6]]
  exact makeTurnN k b n l x1 x2 x3 w hm h1 h2 hn k1 k5 k6

end Go.Proofs.YtkaegbhmeonjfaaGreat

/- Plain: Plain facts on bits of Go's int where both numbers are small and not negative. -/
namespace Go.Proofs.YtkaegbhmeonjfaaGreat

theorem wrap_i64_in (n : Int) (h1 : 0 ≤ n) (h2 : n < 9223372036854775808) : IntKind.i64.wrap n = n := by
  simp [IntKind.wrap, IntKind.bits, IntKind.signed]; omega

theorem ofInt_i64 (a : Nat) (ha : a < 9223372036854775808) : (BitVec.ofInt 64 (a : Int)).toNat = a := by
  rw [BitVec.ofInt_natCast, BitVec.toNat_ofNat]; exact Nat.mod_eq_of_lt (by omega)

theorem i64_or_nat (a b : Nat) (ha : a < 9223372036854775808) (hb : b < 9223372036854775808) : bits .or .i64 (a : Int) (b : Int) = ((a ||| b : Nat) : Int) := by
  have hx : a ||| b < 2 ^ 63 := Nat.or_lt_two_pow (by omega) (by omega)
  show IntKind.i64.wrap ((BitVec.ofInt 64 (a : Int) ||| BitVec.ofInt 64 (b : Int)).toNat : Int) = _
  rw [BitVec.toNat_or, ofInt_i64 a ha, ofInt_i64 b hb, wrap_i64_in _ (by omega) (by omega)]

theorem i64_xor_nat (a b : Nat) (ha : a < 9223372036854775808) (hb : b < 9223372036854775808) : bits .xor .i64 (a : Int) (b : Int) = ((a ^^^ b : Nat) : Int) := by
  have hx : a ^^^ b < 2 ^ 63 := Nat.xor_lt_two_pow (by omega) (by omega)
  show IntKind.i64.wrap ((BitVec.ofInt 64 (a : Int) ^^^ BitVec.ofInt 64 (b : Int)).toNat : Int) = _
  rw [BitVec.toNat_xor, ofInt_i64 a ha, ofInt_i64 b hb, wrap_i64_in _ (by omega) (by omega)]

/-- A number of whole bytes and one byte more: 'or' is plus. -/
theorem i64_or_byte (x y : Int) (h1 : 0 ≤ x) (h2 : x ≤ 16777215) (h3 : 0 ≤ y) (h4 : y ≤ 255) : bits .or .i64 (x * 256) y = x * 256 + y := by
  obtain ⟨A, rfl⟩ := Int.eq_ofNat_of_zero_le h1
  obtain ⟨B, rfl⟩ := Int.eq_ofNat_of_zero_le h3
  have e : ((A : Int) * 256) = ((A * 256 : Nat) : Int) := by omega
  rw [e, i64_or_nat _ _ (by omega) (by omega), nat_join 8 (A * 256) B (by omega) (by omega)]
  omega

end Go.Proofs.YtkaegbhmeonjfaaGreat
