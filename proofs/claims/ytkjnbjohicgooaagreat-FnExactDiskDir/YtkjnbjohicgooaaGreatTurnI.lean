/-
  turnOk, turnFits, makeTurn of the program. By program (turnIgen).
-/
import Derived.Test.YtkjnbjohicgooaaGreatMapO
namespace Go.Proofs.YtkjnbjohicgooaaGreat
open Go.RowKit Go.Maps
set_option linter.unusedVariables false

/-- The word of turnOk. -/
def okIB (t : TurnD) : Bool :=
  if t.1 = 1 then nameB t.2.1 && t.2.2.1.toList.isEmpty else if t.1 = 5 then nameB t.2.1 && nameB t.2.2.1 && decide (t.2.2.2.1 = 0) else if t.1 = 6 then nameB t.2.1 && t.2.2.1.toList.isEmpty && decide (t.2.2.2.1 = 0) else false
/-- The word of turnFits. -/
def fitsB (l : List LinkD) (t : TurnD) : Bool :=
  if t.1 = 1 then !hasL l t.2.1 else if t.1 = 5 then hasL l t.2.1 && !(t.2.2.1.toList == t.2.1.toList) else hasL l t.2.1

theorem okIB_iff (t : TurnD) : okIB t = true ↔ turnOkI t := by
  obtain ⟨k, x1, x2, x3, u⟩ := t
  unfold okIB turnOkI
  by_cases k1 : k = 1
  · subst k1; simp [nameB_iff, empty_iff]
  · by_cases k5 : k = 5
    · subst k5; simp [nameB_iff, and_assoc]
    · by_cases k6 : k = 6
      · subst k6; simp [nameB_iff, empty_iff, and_assoc]
      · simp [k1, k5, k6]
theorem fitsB_iff (l : List LinkD) (t : TurnD) : fitsB l t = true ↔ turnFitsI l t := by
  obtain ⟨k, x1, x2, x3, u⟩ := t
  have hne : ((x2.toList == x1.toList) = false) ↔ x2 ≠ x1 := ⟨fun h e => by subst e; simp at h, fun h => str_neq h⟩
  unfold fitsB turnFitsI
  by_cases k1 : k = 1
  · subst k1; simp
  · by_cases k5 : k = 5
    · subst k5; simp [hne]
    · simp [k1, k5]

theorem okIB_eq (k : Int) (x1 x2 : ByteArray) (x3 : Int) : okIB (k, x1, x2, x3, ()) =
    (if k = 1 then nameB x1 && x2.toList.isEmpty else if k = 5 then nameB x1 && nameB x2 && decide (x3 = 0) else if k = 6 then nameB x1 && x2.toList.isEmpty && decide (x3 = 0) else false) := rfl

theorem fitsB_eq (l : List LinkD) (k : Int) (x1 x2 : ByteArray) (x3 : Int) (h : Bool) (hh : hasL l x1 = h) : fitsB l (k, x1, x2, x3, ()) =
    (if k = 1 then !h else if k = 5 then h && !(x2.toList == x1.toList) else h) := by
  subst hh; rfl

set_option maxRecDepth 100000 in
set_option maxHeartbeats 2000000 in
theorem turnOk1 (x1 x2 : ByteArray) (x3 : Int) (w : World) (h1 : x1.size ≤ maxLen) (h2 : x2.size ≤ maxLen) :
    Calls Tryz.prog 122 #[.agg #[.int .i64 1, .string x1, .string x2, .int .i64 x3]] w fun e w' => e = .returned (.bool (okIB (1, x1, x2, x3, ()))) ∧ Below w.heap.size w w' := by
  have E : Hid (okIB (1, x1, x2, x3, ()) = _) := okIB_eq 1 x1 x2 x3
  go_enter Tryz.func122, Tryz.ntmps122
  go_wp2_with (go_at_call 121; refine (implNameB _ _ (by assumption)).mono ?_; rintro e w9 ⟨rfl, rfl⟩)
  all_goals (go_ret; refine ⟨?_, (Below.refl _ _).alloc (Nat.le_refl _) _⟩)
  all_goals (rw [E.out]; clear E; show Ending.returned (Value.bool _) = Ending.returned (Value.bool _))
  all_goals (by_cases hy : x3 = 0 <;> (try subst hy) <;> first | (simp_all; done) | (simp_all; omega))

set_option maxRecDepth 100000 in
set_option maxHeartbeats 2000000 in
theorem turnOk5 (x1 x2 : ByteArray) (x3 : Int) (w : World) (h1 : x1.size ≤ maxLen) (h2 : x2.size ≤ maxLen) :
    Calls Tryz.prog 122 #[.agg #[.int .i64 5, .string x1, .string x2, .int .i64 x3]] w fun e w' => e = .returned (.bool (okIB (5, x1, x2, x3, ()))) ∧ Below w.heap.size w w' := by
  have E : Hid (okIB (5, x1, x2, x3, ()) = _) := okIB_eq 5 x1 x2 x3
  go_enter Tryz.func122, Tryz.ntmps122
  go_wp2_with (go_at_call 121; refine (implNameB _ _ (by assumption)).mono ?_; rintro e w9 ⟨rfl, rfl⟩)
  all_goals (go_ret; refine ⟨?_, (Below.refl _ _).alloc (Nat.le_refl _) _⟩)
  all_goals (rw [E.out]; clear E; show Ending.returned (Value.bool _) = Ending.returned (Value.bool _))
  all_goals (by_cases hy : x3 = 0 <;> (try subst hy) <;> first | (simp_all; done) | (simp_all; omega))

set_option maxRecDepth 100000 in
set_option maxHeartbeats 2000000 in
theorem turnOk6 (x1 x2 : ByteArray) (x3 : Int) (w : World) (h1 : x1.size ≤ maxLen) (h2 : x2.size ≤ maxLen) :
    Calls Tryz.prog 122 #[.agg #[.int .i64 6, .string x1, .string x2, .int .i64 x3]] w fun e w' => e = .returned (.bool (okIB (6, x1, x2, x3, ()))) ∧ Below w.heap.size w w' := by
  have E : Hid (okIB (6, x1, x2, x3, ()) = _) := okIB_eq 6 x1 x2 x3
  go_enter Tryz.func122, Tryz.ntmps122
  go_wp2_with (go_at_call 121; refine (implNameB _ _ (by assumption)).mono ?_; rintro e w9 ⟨rfl, rfl⟩)
  all_goals (go_ret; refine ⟨?_, (Below.refl _ _).alloc (Nat.le_refl _) _⟩)
  all_goals (rw [E.out]; clear E; show Ending.returned (Value.bool _) = Ending.returned (Value.bool _))
  all_goals (by_cases hy : x3 = 0 <;> (try subst hy) <;> first | (simp_all; done) | (simp_all; omega))

set_option maxRecDepth 100000 in
set_option maxHeartbeats 2000000 in
theorem turnOkN (k : Int) (x1 x2 : ByteArray) (x3 : Int) (w : World) (h1 : x1.size ≤ maxLen) (h2 : x2.size ≤ maxLen) (k1 : k ≠ 1) (k5 : k ≠ 5) (k6 : k ≠ 6) :
    Calls Tryz.prog 122 #[.agg #[.int .i64 k, .string x1, .string x2, .int .i64 x3]] w fun e w' => e = .returned (.bool (okIB (k, x1, x2, x3, ()))) ∧ Below w.heap.size w w' := by
  have E : Hid (okIB (k, x1, x2, x3, ()) = _) := okIB_eq k x1 x2 x3
  have q1 : (k == 1) = false := by simp [k1]
  have q5 : (k == 5) = false := by simp [k5]
  have q6 : (k == 6) = false := by simp [k6]
  go_enter Tryz.func122, Tryz.ntmps122
  go_wp2_with (go_at_call 121; refine (implNameB _ _ (by assumption)).mono ?_; rintro e w9 ⟨rfl, rfl⟩)
  all_goals (go_ret; refine ⟨?_, (Below.refl _ _).alloc (Nat.le_refl _) _⟩)
  all_goals (rw [E.out]; clear E; show Ending.returned (Value.bool _) = Ending.returned (Value.bool _))
  all_goals (by_cases hy : x3 = 0 <;> (try subst hy) <;> first | (simp_all; done) | (simp_all; omega))

theorem turnOk_any (k : Int) (x1 x2 : ByteArray) (x3 : Int) (w : World) (h1 : x1.size ≤ maxLen) (h2 : x2.size ≤ maxLen) :
    Calls Tryz.prog 122 #[.agg #[.int .i64 k, .string x1, .string x2, .int .i64 x3]] w fun e w' => e = .returned (.bool (okIB (k, x1, x2, x3, ()))) ∧ Below w.heap.size w w' := by
  by_cases k1 : k = 1
  · subst k1; exact turnOk1 x1 x2 x3 w h1 h2
  by_cases k5 : k = 5
  · subst k5; exact turnOk5 x1 x2 x3 w h1 h2
  by_cases k6 : k = 6
  · subst k6; exact turnOk6 x1 x2 x3 w h1 h2
  exact turnOkN k x1 x2 x3 w h1 h2 k1 k5 k6

set_option maxRecDepth 100000 in
set_option maxHeartbeats 2000000 in
theorem turnFits1 (b n : Nat) (l : List LinkD) (x1 x2 : ByteArray) (x3 : Int) (w : World) (hm : Hid (MapIs w b n l)) (h1 : x1.size ≤ maxLen) (h2 : x2.size ≤ maxLen) :
    Calls Tryz.prog 123 #[.map (some b), .agg #[.int .i64 1, .string x1, .string x2, .int .i64 x3]] w fun e w' => e = .returned (.bool (fitsB l (1, x1, x2, x3, ()))) ∧ Below w.heap.size w w' := by
  obtain ⟨h, hh⟩ : ∃ h, hasL l x1 = h := ⟨_, rfl⟩
  have E : Hid (fitsB l (1, x1, x2, x3, ()) = _) := fitsB_eq l 1 x1 x2 x3 h hh
  go_enter Tryz.func123, Tryz.ntmps123
  go_wp2_with (at_lookup; refine wp_look_ok _ rfl _ _ rfl b n l rfl (hm.out.alloc _) x1 rfl h1 ?_)
  all_goals (go_ret; refine ⟨?_, (Below.refl _ _).alloc (Nat.le_refl _) _⟩)
  all_goals (rw [E.out]; clear E; show Ending.returned (Value.bool _) = Ending.returned (Value.bool _))
  all_goals (first | (simp_all; done) | (simp_all; omega))

set_option maxRecDepth 100000 in
set_option maxHeartbeats 2000000 in
theorem turnFits5 (b n : Nat) (l : List LinkD) (x1 x2 : ByteArray) (x3 : Int) (w : World) (hm : Hid (MapIs w b n l)) (h1 : x1.size ≤ maxLen) (h2 : x2.size ≤ maxLen) :
    Calls Tryz.prog 123 #[.map (some b), .agg #[.int .i64 5, .string x1, .string x2, .int .i64 x3]] w fun e w' => e = .returned (.bool (fitsB l (5, x1, x2, x3, ()))) ∧ Below w.heap.size w w' := by
  obtain ⟨h, hh⟩ : ∃ h, hasL l x1 = h := ⟨_, rfl⟩
  have E : Hid (fitsB l (5, x1, x2, x3, ()) = _) := fitsB_eq l 5 x1 x2 x3 h hh
  go_enter Tryz.func123, Tryz.ntmps123
  go_wp2_with (at_lookup; refine wp_look_ok _ rfl _ _ rfl b n l rfl (hm.out.alloc _) x1 rfl h1 ?_)
  all_goals (go_ret; refine ⟨?_, (Below.refl _ _).alloc (Nat.le_refl _) _⟩)
  all_goals (rw [E.out]; clear E; show Ending.returned (Value.bool _) = Ending.returned (Value.bool _))
  all_goals (first | (simp_all; done) | (simp_all; omega))

set_option maxRecDepth 100000 in
set_option maxHeartbeats 2000000 in
theorem turnFitsN (k : Int) (b n : Nat) (l : List LinkD) (x1 x2 : ByteArray) (x3 : Int) (w : World) (hm : Hid (MapIs w b n l)) (h1 : x1.size ≤ maxLen) (h2 : x2.size ≤ maxLen) (k1 : k ≠ 1) (k5 : k ≠ 5) :
    Calls Tryz.prog 123 #[.map (some b), .agg #[.int .i64 k, .string x1, .string x2, .int .i64 x3]] w fun e w' => e = .returned (.bool (fitsB l (k, x1, x2, x3, ()))) ∧ Below w.heap.size w w' := by
  obtain ⟨h, hh⟩ : ∃ h, hasL l x1 = h := ⟨_, rfl⟩
  have E : Hid (fitsB l (k, x1, x2, x3, ()) = _) := fitsB_eq l k x1 x2 x3 h hh
  have q1 : (k == 1) = false := by simp [k1]
  have q5 : (k == 5) = false := by simp [k5]
  go_enter Tryz.func123, Tryz.ntmps123
  go_wp2_with (at_lookup; refine wp_look_ok _ rfl _ _ rfl b n l rfl (hm.out.alloc _) x1 rfl h1 ?_)
  all_goals (go_ret; refine ⟨?_, (Below.refl _ _).alloc (Nat.le_refl _) _⟩)
  all_goals (rw [E.out]; clear E; show Ending.returned (Value.bool _) = Ending.returned (Value.bool _))
  all_goals (first | (simp_all; done) | (simp_all; omega))

theorem turnFits_any (b n : Nat) (l : List LinkD) (k : Int) (x1 x2 : ByteArray) (x3 : Int) (w : World) (hm : MapIs w b n l) (h1 : x1.size ≤ maxLen) (h2 : x2.size ≤ maxLen) :
    Calls Tryz.prog 123 #[.map (some b), .agg #[.int .i64 k, .string x1, .string x2, .int .i64 x3]] w fun e w' => e = .returned (.bool (fitsB l (k, x1, x2, x3, ()))) ∧ Below w.heap.size w w' := by
  by_cases k1 : k = 1
  · subst k1; exact turnFits1 b n l x1 x2 x3 w hm h1 h2
  by_cases k5 : k = 5
  · subst k5; exact turnFits5 b n l x1 x2 x3 w hm h1 h2
  exact turnFitsN k b n l x1 x2 x3 w hm h1 h2 k1 k5

set_option maxRecDepth 100000 in
set_option maxHeartbeats 2000000 in
theorem makeTurn1 (b n : Nat) (l : List LinkD) (x1 x2 : ByteArray) (x3 : Int) (w : World) (hm : Hid (MapIs w b n l)) (h1 : x1.size ≤ maxLen) (h2 : x2.size ≤ maxLen) (hn : n ≤ 100000000) :
    Calls Tryz.prog 99 #[.map (some b), .agg #[.int .i64 1, .string x1, .string x2, .int .i64 x3]] w fun e w' => e = .returned (.tuple #[]) ∧ MapIs w' b (n + 1) ((x1, x3, ()) :: l) ∧ w.grownBy w' (some b) := by
  have hbx := heap_alloc_new w (.cells #[.int .i64 1, .string x1, .string x2, .int .i64 x3] 95)
  have hbne : w.heap.size ≠ b := by have := hm.out.lt; omega
  go_enter Tryz.func99, Tryz.ntmps99
  go_wp2_with (at_mapUpdate; refine wp_store _ rfl _ _ _ rfl b n _ rfl (hm.out.alloc _) (by unfold maxLen; omega) x1 x3 rfl rfl (by assumption) ?_)
  intro w1 hm1 hg1
  have HM : Hid (MapIs w1 b (n + 1) ((x1, x3, ()) :: l) ∧ w.grownBy w1 (some b)) := ⟨hm1, (World.grownBy_alloc w _ _).trans hg1⟩
  clear hm1 hg1
  go_wp2
  go_returns
  exact ⟨rfl, HM.out.1, HM.out.2⟩

set_option maxRecDepth 100000 in
set_option maxHeartbeats 2000000 in
theorem makeTurn6 (b n : Nat) (l : List LinkD) (x1 x2 : ByteArray) (x3 : Int) (w : World) (hm : Hid (MapIs w b n l)) (h1 : x1.size ≤ maxLen) (h2 : x2.size ≤ maxLen) (hn : n ≤ 100000000) :
    Calls Tryz.prog 99 #[.map (some b), .agg #[.int .i64 6, .string x1, .string x2, .int .i64 x3]] w fun e w' => e = .returned (.tuple #[]) ∧ MapIs w' b (n + 1) (lessL l x1) ∧ w.grownBy w' (some b) := by
  have hbx := heap_alloc_new w (.cells #[.int .i64 6, .string x1, .string x2, .int .i64 x3] 95)
  have hbne : w.heap.size ≠ b := by have := hm.out.lt; omega
  go_enter Tryz.func99, Tryz.ntmps99
  go_wp2_with (at_delete; refine wp_delete _ rfl _ _ rfl b n _ rfl (hm.out.alloc _) x1 rfl (by assumption) ?_)
  intro w1 hm1 hg1
  have HM : Hid (MapIs w1 b (n + 1) (lessL l x1) ∧ w.grownBy w1 (some b)) := ⟨hm1.mono (by omega), (World.grownBy_alloc w _ _).trans hg1⟩
  clear hm1 hg1
  go_wp2
  go_returns
  exact ⟨rfl, HM.out.1, HM.out.2⟩

set_option maxRecDepth 100000 in
set_option maxHeartbeats 2000000 in
theorem makeTurn5 (b n : Nat) (l : List LinkD) (x1 x2 : ByteArray) (x3 : Int) (w : World) (hm : Hid (MapIs w b n l)) (h1 : x1.size ≤ maxLen) (h2 : x2.size ≤ maxLen) (hn : n ≤ 100000000) :
    Calls Tryz.prog 99 #[.map (some b), .agg #[.int .i64 5, .string x1, .string x2, .int .i64 x3]] w fun e w' => e = .returned (.tuple #[]) ∧ MapIs w' b (n + 1) (lessL ((x2, findL l x1, ()) :: l) x1) ∧ w.grownBy w' (some b) := by
  have hbx := heap_alloc_new w (.cells #[.int .i64 5, .string x1, .string x2, .int .i64 x3] 95)
  have hbne : w.heap.size ≠ b := by have := hm.out.lt; omega
  go_enter Tryz.func99, Tryz.ntmps99
  go_wp2_with (first | (at_lookup; refine wp_look _ rfl _ _ rfl b n _ rfl (hm.out.alloc _) x1 rfl (by assumption) ?_) | ((at_mapUpdate; refine wp_store _ rfl _ _ _ rfl b n _ rfl (hm.out.alloc _) (by unfold maxLen; omega) x2 (findL l x1) rfl rfl (by assumption) ?_); intro w1 hm1 hg1; have c1 : w1.cell? ⟨w.heap.size, 1, none⟩ = some (.string x1) := hg1.cell (box_cell hbx rfl) (by simp; exact hbne); have c0 : w1.cell? ⟨w.heap.size, 0, none⟩ = some (.int .i64 5) := hg1.cell (box_cell hbx rfl) (by simp; exact hbne); have HM : Hid (MapIs w1 b (n + 1) ((x2, findL l x1, ()) :: l) ∧ w.grownBy w1 (some b)) := ⟨hm1, (World.grownBy_alloc w _ _).trans hg1⟩; clear hm1 hg1 hbx) | (at_delete; refine wp_delete _ rfl _ _ rfl b (n + 1) _ rfl HM.out.1 x1 rfl (by assumption) ?_))
  intro w2 hm2 hg2
  have HM2 : Hid (MapIs w2 b (n + 1) (lessL ((x2, findL l x1, ()) :: l) x1) ∧ w.grownBy w2 (some b)) := ⟨hm2, HM.out.2.trans hg2⟩
  clear hm2 hg2 c0 c1
  go_wp2
  go_returns
  exact ⟨rfl, HM2.out.1, HM2.out.2⟩

set_option maxRecDepth 100000 in
set_option maxHeartbeats 2000000 in
theorem makeTurnN (k : Int) (b n : Nat) (l : List LinkD) (x1 x2 : ByteArray) (x3 : Int) (w : World) (hm : Hid (MapIs w b n l)) (h1 : x1.size ≤ maxLen) (h2 : x2.size ≤ maxLen) (hn : n ≤ 100000000) (k1 : k ≠ 1) (k5 : k ≠ 5) (k6 : k ≠ 6) :
    Calls Tryz.prog 99 #[.map (some b), .agg #[.int .i64 k, .string x1, .string x2, .int .i64 x3]] w fun e w' => e = .returned (.tuple #[]) ∧ MapIs w' b (n + 1) (l) ∧ w.grownBy w' (some b) := by
  have q1 : (k == 1) = false := by simp [k1]
  have q5 : (k == 5) = false := by simp [k5]
  have q6 : (k == 6) = false := by simp [k6]
  have hbx := heap_alloc_new w (.cells #[.int .i64 k, .string x1, .string x2, .int .i64 x3] 95)
  have hbne : w.heap.size ≠ b := by have := hm.out.lt; omega
  go_enter Tryz.func99, Tryz.ntmps99
  go_wp2
  go_returns
  exact ⟨rfl, (hm.out.mono (by omega)).alloc _, World.grownBy_alloc w _ _⟩

theorem makeTurn_any (b n : Nat) (l : List LinkD) (k : Int) (x1 x2 : ByteArray) (x3 : Int) (w : World) (hm : MapIs w b n l) (h1 : x1.size ≤ maxLen) (h2 : x2.size ≤ maxLen) (hn : n ≤ 100000000) :
    Calls Tryz.prog 99 #[.map (some b), .agg #[.int .i64 k, .string x1, .string x2, .int .i64 x3]] w fun e w' => e = .returned (.tuple #[]) ∧ MapIs w' b (n + 1) (turnI l (k, x1, x2, x3, ())) ∧ w.grownBy w' (some b) := by
  by_cases k1 : k = 1
  · subst k1; exact makeTurn1 b n l x1 x2 x3 w hm h1 h2 hn
  by_cases k5 : k = 5
  · subst k5; exact makeTurn5 b n l x1 x2 x3 w hm h1 h2 hn
  by_cases k6 : k = 6
  · subst k6; exact makeTurn6 b n l x1 x2 x3 w hm h1 h2 hn
  rw [show turnI l (k, x1, x2, x3, ()) = l by unfold turnI; rw [if_neg k1, if_neg k5, if_neg k6]]
  exact makeTurnN k b n l x1 x2 x3 w hm h1 h2 hn k1 k5 k6

end Go.Proofs.YtkjnbjohicgooaaGreat
