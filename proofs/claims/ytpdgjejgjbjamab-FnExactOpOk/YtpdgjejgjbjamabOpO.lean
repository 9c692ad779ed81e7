/-
  OpOk, the model's and the program's. By program (opgen.py).
-/
import Derived.Test.YtpdgjejgjbjamabTyOp
import Derived.Test.YtpdgjejgjbjamabNm
namespace Go.Proofs.Ytpdgjejgjbjamab
open Go.RowKit
set_option linter.unusedVariables false

/-- An empty text. -/
def emptyB (s : ByteArray) : Bool := s.toList.isEmpty

def opB (k : Int) (x1 x2 : ByteArray) (sz : Int) (n : Nat) : Bool :=
  decide (1 ≤ k) && decide (k ≤ 7) && (if k = 7 then emptyB x1 else nameB x1) && (if k = 5 then nameB x2 else emptyB x2) &&
    (if k = 4 then decide (0 ≤ sz) && decide (sz ≤ 60000) else decide (sz = 0)) && (if k = 2 then decide (n ≤ 60000) else decide (n = 0))

set_option maxRecDepth 100000 in
set_option maxHeartbeats 2000000 in
theorem specOp1 (x1 x2 : ByteArray) (x3 : Int) (a4 : Option Addr) (n4 c4 : Nat) (w : World) (h1 : x1.size ≤ maxLen) (h2 : x2.size ≤ maxLen) :
    Calls Try.prog 5 #[.agg #[.int .i64 1, .string x1, .string x2, .int .i64 x3, .slice a4 n4 c4]] w fun e w' => e = .returned (.bool (opB 1 x1 x2 x3 n4)) ∧ Below w.heap.size w w' := by
  go_enter Try.func5, Try.ntmps5
  go_wp2_with (go_at_call 10; refine (specNameB _ _ (by assumption)).mono ?_; rintro e w9 ⟨rfl, rfl⟩)
  all_goals (go_ret; refine ⟨?_, (Below.refl _ _).alloc (Nat.le_refl _) _⟩)
  all_goals (show Ending.returned (Value.bool _) = Ending.returned (Value.bool _))
  all_goals (by_cases hz : n4 = 0 <;> by_cases hy : x3 = 0 <;> (try subst hz) <;> (try subst hy) <;> first | (simp_all [opB, emptyB]; done) | (simp_all [opB, emptyB]; omega) | (simp_all [opB]; done) | (simp_all [opB]; omega))

set_option maxRecDepth 100000 in
set_option maxHeartbeats 2000000 in
theorem specOp2 (x1 x2 : ByteArray) (x3 : Int) (a4 : Option Addr) (n4 c4 : Nat) (w : World) (h1 : x1.size ≤ maxLen) (h2 : x2.size ≤ maxLen) :
    Calls Try.prog 5 #[.agg #[.int .i64 2, .string x1, .string x2, .int .i64 x3, .slice a4 n4 c4]] w fun e w' => e = .returned (.bool (opB 2 x1 x2 x3 n4)) ∧ Below w.heap.size w w' := by
  go_enter Try.func5, Try.ntmps5
  go_wp2_with (go_at_call 10; refine (specNameB _ _ (by assumption)).mono ?_; rintro e w9 ⟨rfl, rfl⟩)
  all_goals (go_ret; refine ⟨?_, (Below.refl _ _).alloc (Nat.le_refl _) _⟩)
  all_goals (show Ending.returned (Value.bool _) = Ending.returned (Value.bool _))
  all_goals (by_cases hz : n4 = 0 <;> by_cases hy : x3 = 0 <;> (try subst hz) <;> (try subst hy) <;> first | (simp_all [opB, emptyB]; done) | (simp_all [opB, emptyB]; omega) | (simp_all [opB]; done) | (simp_all [opB]; omega))

set_option maxRecDepth 100000 in
set_option maxHeartbeats 2000000 in
theorem specOp3 (x1 x2 : ByteArray) (x3 : Int) (a4 : Option Addr) (n4 c4 : Nat) (w : World) (h1 : x1.size ≤ maxLen) (h2 : x2.size ≤ maxLen) :
    Calls Try.prog 5 #[.agg #[.int .i64 3, .string x1, .string x2, .int .i64 x3, .slice a4 n4 c4]] w fun e w' => e = .returned (.bool (opB 3 x1 x2 x3 n4)) ∧ Below w.heap.size w w' := by
  go_enter Try.func5, Try.ntmps5
  go_wp2_with (go_at_call 10; refine (specNameB _ _ (by assumption)).mono ?_; rintro e w9 ⟨rfl, rfl⟩)
  all_goals (go_ret; refine ⟨?_, (Below.refl _ _).alloc (Nat.le_refl _) _⟩)
  all_goals (show Ending.returned (Value.bool _) = Ending.returned (Value.bool _))
  all_goals (by_cases hz : n4 = 0 <;> by_cases hy : x3 = 0 <;> (try subst hz) <;> (try subst hy) <;> first | (simp_all [opB, emptyB]; done) | (simp_all [opB, emptyB]; omega) | (simp_all [opB]; done) | (simp_all [opB]; omega))

set_option maxRecDepth 100000 in
set_option maxHeartbeats 2000000 in
theorem specOp4 (x1 x2 : ByteArray) (x3 : Int) (a4 : Option Addr) (n4 c4 : Nat) (w : World) (h1 : x1.size ≤ maxLen) (h2 : x2.size ≤ maxLen) :
    Calls Try.prog 5 #[.agg #[.int .i64 4, .string x1, .string x2, .int .i64 x3, .slice a4 n4 c4]] w fun e w' => e = .returned (.bool (opB 4 x1 x2 x3 n4)) ∧ Below w.heap.size w w' := by
  go_enter Try.func5, Try.ntmps5
  go_wp2_with (go_at_call 10; refine (specNameB _ _ (by assumption)).mono ?_; rintro e w9 ⟨rfl, rfl⟩)
  all_goals (go_ret; refine ⟨?_, (Below.refl _ _).alloc (Nat.le_refl _) _⟩)
  all_goals (show Ending.returned (Value.bool _) = Ending.returned (Value.bool _))
  all_goals (by_cases hz : n4 = 0 <;> by_cases hy : x3 = 0 <;> (try subst hz) <;> (try subst hy) <;> first | (simp_all [opB, emptyB]; done) | (simp_all [opB, emptyB]; omega) | (simp_all [opB]; done) | (simp_all [opB]; omega))

set_option maxRecDepth 100000 in
set_option maxHeartbeats 2000000 in
theorem specOp5 (x1 x2 : ByteArray) (x3 : Int) (a4 : Option Addr) (n4 c4 : Nat) (w : World) (h1 : x1.size ≤ maxLen) (h2 : x2.size ≤ maxLen) :
    Calls Try.prog 5 #[.agg #[.int .i64 5, .string x1, .string x2, .int .i64 x3, .slice a4 n4 c4]] w fun e w' => e = .returned (.bool (opB 5 x1 x2 x3 n4)) ∧ Below w.heap.size w w' := by
  go_enter Try.func5, Try.ntmps5
  go_wp2_with (go_at_call 10; refine (specNameB _ _ (by assumption)).mono ?_; rintro e w9 ⟨rfl, rfl⟩)
  all_goals (go_ret; refine ⟨?_, (Below.refl _ _).alloc (Nat.le_refl _) _⟩)
  all_goals (show Ending.returned (Value.bool _) = Ending.returned (Value.bool _))
  all_goals (by_cases hz : n4 = 0 <;> by_cases hy : x3 = 0 <;> (try subst hz) <;> (try subst hy) <;> first | (simp_all [opB]; done) | (simp_all [opB]; omega) | (simp_all [opB]; done) | (simp_all [opB]; omega))

set_option maxRecDepth 100000 in
set_option maxHeartbeats 2000000 in
theorem specOp6 (x1 x2 : ByteArray) (x3 : Int) (a4 : Option Addr) (n4 c4 : Nat) (w : World) (h1 : x1.size ≤ maxLen) (h2 : x2.size ≤ maxLen) :
    Calls Try.prog 5 #[.agg #[.int .i64 6, .string x1, .string x2, .int .i64 x3, .slice a4 n4 c4]] w fun e w' => e = .returned (.bool (opB 6 x1 x2 x3 n4)) ∧ Below w.heap.size w w' := by
  go_enter Try.func5, Try.ntmps5
  go_wp2_with (go_at_call 10; refine (specNameB _ _ (by assumption)).mono ?_; rintro e w9 ⟨rfl, rfl⟩)
  all_goals (go_ret; refine ⟨?_, (Below.refl _ _).alloc (Nat.le_refl _) _⟩)
  all_goals (show Ending.returned (Value.bool _) = Ending.returned (Value.bool _))
  all_goals (by_cases hz : n4 = 0 <;> by_cases hy : x3 = 0 <;> (try subst hz) <;> (try subst hy) <;> first | (simp_all [opB, emptyB]; done) | (simp_all [opB, emptyB]; omega) | (simp_all [opB]; done) | (simp_all [opB]; omega))

set_option maxRecDepth 100000 in
set_option maxHeartbeats 2000000 in
theorem specOp7 (x1 x2 : ByteArray) (x3 : Int) (a4 : Option Addr) (n4 c4 : Nat) (w : World) (h1 : x1.size ≤ maxLen) (h2 : x2.size ≤ maxLen) :
    Calls Try.prog 5 #[.agg #[.int .i64 7, .string x1, .string x2, .int .i64 x3, .slice a4 n4 c4]] w fun e w' => e = .returned (.bool (opB 7 x1 x2 x3 n4)) ∧ Below w.heap.size w w' := by
  go_enter Try.func5, Try.ntmps5
  go_wp2_with (go_at_call 10; refine (specNameB _ _ (by assumption)).mono ?_; rintro e w9 ⟨rfl, rfl⟩)
  all_goals (go_ret; refine ⟨?_, (Below.refl _ _).alloc (Nat.le_refl _) _⟩)
  all_goals (show Ending.returned (Value.bool _) = Ending.returned (Value.bool _))
  all_goals (by_cases hz : n4 = 0 <;> by_cases hy : x3 = 0 <;> (try subst hz) <;> (try subst hy) <;> first | (simp_all [opB, emptyB]; done) | (simp_all [opB, emptyB]; omega) | (simp_all [opB]; done) | (simp_all [opB]; omega))

set_option maxRecDepth 100000 in
set_option maxHeartbeats 2000000 in
theorem specOpLo (k : Int) (x1 x2 : ByteArray) (x3 : Int) (a4 : Option Addr) (n4 c4 : Nat) (w : World) (h1 : x1.size ≤ maxLen) (h2 : x2.size ≤ maxLen) (hk : k < 1) :
    Calls Try.prog 5 #[.agg #[.int .i64 k, .string x1, .string x2, .int .i64 x3, .slice a4 n4 c4]] w fun e w' => e = .returned (.bool (opB k x1 x2 x3 n4)) ∧ Below w.heap.size w w' := by
  go_enter Try.func5, Try.ntmps5
  go_wp2_with (go_at_call 10; refine (specNameB _ _ (by assumption)).mono ?_; rintro e w9 ⟨rfl, rfl⟩)
  all_goals (go_ret; refine ⟨?_, (Below.refl _ _).alloc (Nat.le_refl _) _⟩)
  all_goals (show Ending.returned (Value.bool _) = Ending.returned (Value.bool _))
  all_goals (by_cases hz : n4 = 0 <;> by_cases hy : x3 = 0 <;> (try subst hz) <;> (try subst hy) <;> first | (simp_all [opB, emptyB]; done) | (simp_all [opB, emptyB]; omega) | (simp_all [opB]; done) | (simp_all [opB]; omega))

set_option maxRecDepth 100000 in
set_option maxHeartbeats 2000000 in
theorem specOpHi (k : Int) (x1 x2 : ByteArray) (x3 : Int) (a4 : Option Addr) (n4 c4 : Nat) (w : World) (h1 : x1.size ≤ maxLen) (h2 : x2.size ≤ maxLen) (hk : 7 < k) :
    Calls Try.prog 5 #[.agg #[.int .i64 k, .string x1, .string x2, .int .i64 x3, .slice a4 n4 c4]] w fun e w' => e = .returned (.bool (opB k x1 x2 x3 n4)) ∧ Below w.heap.size w w' := by
  have hk1 : ¬ k < 1 := by omega
  go_enter Try.func5, Try.ntmps5
  go_wp2_with (go_at_call 10; refine (specNameB _ _ (by assumption)).mono ?_; rintro e w9 ⟨rfl, rfl⟩)
  all_goals (go_ret; refine ⟨?_, (Below.refl _ _).alloc (Nat.le_refl _) _⟩)
  all_goals (show Ending.returned (Value.bool _) = Ending.returned (Value.bool _))
  all_goals (by_cases hz : n4 = 0 <;> by_cases hy : x3 = 0 <;> (try subst hz) <;> (try subst hy) <;> first | (simp_all [opB, emptyB]; done) | (simp_all [opB, emptyB]; omega) | (simp_all [opB]; done) | (simp_all [opB]; omega))

theorem specOp_any (k : Int) (x1 x2 : ByteArray) (x3 : Int) (a4 : Option Addr) (n4 c4 : Nat) (w : World) (h1 : x1.size ≤ maxLen) (h2 : x2.size ≤ maxLen) :
    Calls Try.prog 5 #[.agg #[.int .i64 k, .string x1, .string x2, .int .i64 x3, .slice a4 n4 c4]] w fun e w' => e = .returned (.bool (opB k x1 x2 x3 n4)) ∧ Below w.heap.size w w' := by
  rcases Int.lt_or_le k 1 with h | h
  · exact specOpLo k x1 x2 x3 a4 n4 c4 w h1 h2 h
  rcases Int.lt_or_le 7 k with h' | h'
  · exact specOpHi k x1 x2 x3 a4 n4 c4 w h1 h2 h'
  have hk : k = 1 ∨ k = 2 ∨ k = 3 ∨ k = 4 ∨ k = 5 ∨ k = 6 ∨ k = 7 := by omega
  rcases hk with rfl | rfl | rfl | rfl | rfl | rfl | rfl
  · exact specOp1 x1 x2 x3 a4 n4 c4 w h1 h2
  · exact specOp2 x1 x2 x3 a4 n4 c4 w h1 h2
  · exact specOp3 x1 x2 x3 a4 n4 c4 w h1 h2
  · exact specOp4 x1 x2 x3 a4 n4 c4 w h1 h2
  · exact specOp5 x1 x2 x3 a4 n4 c4 w h1 h2
  · exact specOp6 x1 x2 x3 a4 n4 c4 w h1 h2
  · exact specOp7 x1 x2 x3 a4 n4 c4 w h1 h2

set_option maxRecDepth 100000 in
set_option maxHeartbeats 2000000 in
theorem implOp1 (x1 x2 : ByteArray) (x3 : Int) (a4 : Option Addr) (n4 c4 : Nat) (w : World) (h1 : x1.size ≤ maxLen) (h2 : x2.size ≤ maxLen) :
    Calls Try.prog 7 #[.agg #[.int .i64 1, .string x1, .string x2, .int .i64 x3, .slice a4 n4 c4]] w fun e w' => e = .returned (.bool (opB 1 x1 x2 x3 n4)) ∧ Below w.heap.size w w' := by
  go_enter Try.func7, Try.ntmps7
  go_wp2_with (first | (go_at_call 15; refine (implNameB _ _ (by assumption)).mono ?_; rintro e w9 ⟨rfl, rfl⟩) | go_in)
  all_goals (go_ret; refine ⟨?_, (Below.refl _ _).alloc (Nat.le_refl _) _⟩)
  all_goals (show Ending.returned (Value.bool _) = Ending.returned (Value.bool _))
  all_goals (by_cases hz : n4 = 0 <;> by_cases hy : x3 = 0 <;> (try subst hz) <;> (try subst hy) <;> first | (simp_all [opB, emptyB]; done) | (simp_all [opB, emptyB]; omega) | (simp_all [opB]; done) | (simp_all [opB]; omega))

set_option maxRecDepth 100000 in
set_option maxHeartbeats 2000000 in
theorem implOp2 (x1 x2 : ByteArray) (x3 : Int) (a4 : Option Addr) (n4 c4 : Nat) (w : World) (h1 : x1.size ≤ maxLen) (h2 : x2.size ≤ maxLen) :
    Calls Try.prog 7 #[.agg #[.int .i64 2, .string x1, .string x2, .int .i64 x3, .slice a4 n4 c4]] w fun e w' => e = .returned (.bool (opB 2 x1 x2 x3 n4)) ∧ Below w.heap.size w w' := by
  go_enter Try.func7, Try.ntmps7
  go_wp2_with (first | (go_at_call 15; refine (implNameB _ _ (by assumption)).mono ?_; rintro e w9 ⟨rfl, rfl⟩) | go_in)
  all_goals (go_ret; refine ⟨?_, (Below.refl _ _).alloc (Nat.le_refl _) _⟩)
  all_goals (show Ending.returned (Value.bool _) = Ending.returned (Value.bool _))
  all_goals (by_cases hz : n4 = 0 <;> by_cases hy : x3 = 0 <;> (try subst hz) <;> (try subst hy) <;> first | (simp_all [opB, emptyB]; done) | (simp_all [opB, emptyB]; omega) | (simp_all [opB]; done) | (simp_all [opB]; omega))

set_option maxRecDepth 100000 in
set_option maxHeartbeats 2000000 in
theorem implOp3 (x1 x2 : ByteArray) (x3 : Int) (a4 : Option Addr) (n4 c4 : Nat) (w : World) (h1 : x1.size ≤ maxLen) (h2 : x2.size ≤ maxLen) :
    Calls Try.prog 7 #[.agg #[.int .i64 3, .string x1, .string x2, .int .i64 x3, .slice a4 n4 c4]] w fun e w' => e = .returned (.bool (opB 3 x1 x2 x3 n4)) ∧ Below w.heap.size w w' := by
  go_enter Try.func7, Try.ntmps7
  go_wp2_with (first | (go_at_call 15; refine (implNameB _ _ (by assumption)).mono ?_; rintro e w9 ⟨rfl, rfl⟩) | go_in)
  all_goals (go_ret; refine ⟨?_, (Below.refl _ _).alloc (Nat.le_refl _) _⟩)
  all_goals (show Ending.returned (Value.bool _) = Ending.returned (Value.bool _))
  all_goals (by_cases hz : n4 = 0 <;> by_cases hy : x3 = 0 <;> (try subst hz) <;> (try subst hy) <;> first | (simp_all [opB, emptyB]; done) | (simp_all [opB, emptyB]; omega) | (simp_all [opB]; done) | (simp_all [opB]; omega))

set_option maxRecDepth 100000 in
set_option maxHeartbeats 2000000 in
theorem implOp4 (x1 x2 : ByteArray) (x3 : Int) (a4 : Option Addr) (n4 c4 : Nat) (w : World) (h1 : x1.size ≤ maxLen) (h2 : x2.size ≤ maxLen) :
    Calls Try.prog 7 #[.agg #[.int .i64 4, .string x1, .string x2, .int .i64 x3, .slice a4 n4 c4]] w fun e w' => e = .returned (.bool (opB 4 x1 x2 x3 n4)) ∧ Below w.heap.size w w' := by
  go_enter Try.func7, Try.ntmps7
  go_wp2_with (first | (go_at_call 15; refine (implNameB _ _ (by assumption)).mono ?_; rintro e w9 ⟨rfl, rfl⟩) | go_in)
  all_goals (go_ret; refine ⟨?_, (Below.refl _ _).alloc (Nat.le_refl _) _⟩)
  all_goals (show Ending.returned (Value.bool _) = Ending.returned (Value.bool _))
  all_goals (by_cases hz : n4 = 0 <;> by_cases hy : x3 = 0 <;> (try subst hz) <;> (try subst hy) <;> first | (simp_all [opB, emptyB]; done) | (simp_all [opB, emptyB]; omega) | (simp_all [opB]; done) | (simp_all [opB]; omega))

set_option maxRecDepth 100000 in
set_option maxHeartbeats 2000000 in
theorem implOp5 (x1 x2 : ByteArray) (x3 : Int) (a4 : Option Addr) (n4 c4 : Nat) (w : World) (h1 : x1.size ≤ maxLen) (h2 : x2.size ≤ maxLen) :
    Calls Try.prog 7 #[.agg #[.int .i64 5, .string x1, .string x2, .int .i64 x3, .slice a4 n4 c4]] w fun e w' => e = .returned (.bool (opB 5 x1 x2 x3 n4)) ∧ Below w.heap.size w w' := by
  go_enter Try.func7, Try.ntmps7
  go_wp2_with (first | (go_at_call 15; refine (implNameB _ _ (by assumption)).mono ?_; rintro e w9 ⟨rfl, rfl⟩) | go_in)
  all_goals (go_ret; refine ⟨?_, (Below.refl _ _).alloc (Nat.le_refl _) _⟩)
  all_goals (show Ending.returned (Value.bool _) = Ending.returned (Value.bool _))
  all_goals (by_cases hz : n4 = 0 <;> by_cases hy : x3 = 0 <;> (try subst hz) <;> (try subst hy) <;> first | (simp_all [opB]; done) | (simp_all [opB]; omega) | (simp_all [opB]; done) | (simp_all [opB]; omega))

set_option maxRecDepth 100000 in
set_option maxHeartbeats 2000000 in
theorem implOp6 (x1 x2 : ByteArray) (x3 : Int) (a4 : Option Addr) (n4 c4 : Nat) (w : World) (h1 : x1.size ≤ maxLen) (h2 : x2.size ≤ maxLen) :
    Calls Try.prog 7 #[.agg #[.int .i64 6, .string x1, .string x2, .int .i64 x3, .slice a4 n4 c4]] w fun e w' => e = .returned (.bool (opB 6 x1 x2 x3 n4)) ∧ Below w.heap.size w w' := by
  go_enter Try.func7, Try.ntmps7
  go_wp2_with (first | (go_at_call 15; refine (implNameB _ _ (by assumption)).mono ?_; rintro e w9 ⟨rfl, rfl⟩) | go_in)
  all_goals (go_ret; refine ⟨?_, (Below.refl _ _).alloc (Nat.le_refl _) _⟩)
  all_goals (show Ending.returned (Value.bool _) = Ending.returned (Value.bool _))
  all_goals (by_cases hz : n4 = 0 <;> by_cases hy : x3 = 0 <;> (try subst hz) <;> (try subst hy) <;> first | (simp_all [opB, emptyB]; done) | (simp_all [opB, emptyB]; omega) | (simp_all [opB]; done) | (simp_all [opB]; omega))

set_option maxRecDepth 100000 in
set_option maxHeartbeats 2000000 in
theorem implOp7 (x1 x2 : ByteArray) (x3 : Int) (a4 : Option Addr) (n4 c4 : Nat) (w : World) (h1 : x1.size ≤ maxLen) (h2 : x2.size ≤ maxLen) :
    Calls Try.prog 7 #[.agg #[.int .i64 7, .string x1, .string x2, .int .i64 x3, .slice a4 n4 c4]] w fun e w' => e = .returned (.bool (opB 7 x1 x2 x3 n4)) ∧ Below w.heap.size w w' := by
  go_enter Try.func7, Try.ntmps7
  go_wp2_with (first | (go_at_call 15; refine (implNameB _ _ (by assumption)).mono ?_; rintro e w9 ⟨rfl, rfl⟩) | go_in)
  all_goals (go_ret; refine ⟨?_, (Below.refl _ _).alloc (Nat.le_refl _) _⟩)
  all_goals (show Ending.returned (Value.bool _) = Ending.returned (Value.bool _))
  all_goals (by_cases hz : n4 = 0 <;> by_cases hy : x3 = 0 <;> (try subst hz) <;> (try subst hy) <;> first | (simp_all [opB, emptyB]; done) | (simp_all [opB, emptyB]; omega) | (simp_all [opB]; done) | (simp_all [opB]; omega))

set_option maxRecDepth 100000 in
set_option maxHeartbeats 2000000 in
theorem implOpLo (k : Int) (x1 x2 : ByteArray) (x3 : Int) (a4 : Option Addr) (n4 c4 : Nat) (w : World) (h1 : x1.size ≤ maxLen) (h2 : x2.size ≤ maxLen) (hk : k < 1) :
    Calls Try.prog 7 #[.agg #[.int .i64 k, .string x1, .string x2, .int .i64 x3, .slice a4 n4 c4]] w fun e w' => e = .returned (.bool (opB k x1 x2 x3 n4)) ∧ Below w.heap.size w w' := by
  go_enter Try.func7, Try.ntmps7
  go_wp2_with (first | (go_at_call 15; refine (implNameB _ _ (by assumption)).mono ?_; rintro e w9 ⟨rfl, rfl⟩) | go_in)
  all_goals (go_ret; refine ⟨?_, (Below.refl _ _).alloc (Nat.le_refl _) _⟩)
  all_goals (show Ending.returned (Value.bool _) = Ending.returned (Value.bool _))
  all_goals (by_cases hz : n4 = 0 <;> by_cases hy : x3 = 0 <;> (try subst hz) <;> (try subst hy) <;> first | (simp_all [opB, emptyB]; done) | (simp_all [opB, emptyB]; omega) | (simp_all [opB]; done) | (simp_all [opB]; omega))

set_option maxRecDepth 100000 in
set_option maxHeartbeats 2000000 in
theorem implOpHi (k : Int) (x1 x2 : ByteArray) (x3 : Int) (a4 : Option Addr) (n4 c4 : Nat) (w : World) (h1 : x1.size ≤ maxLen) (h2 : x2.size ≤ maxLen) (hk : 7 < k) :
    Calls Try.prog 7 #[.agg #[.int .i64 k, .string x1, .string x2, .int .i64 x3, .slice a4 n4 c4]] w fun e w' => e = .returned (.bool (opB k x1 x2 x3 n4)) ∧ Below w.heap.size w w' := by
  have hk1 : ¬ k < 1 := by omega
  go_enter Try.func7, Try.ntmps7
  go_wp2_with (first | (go_at_call 15; refine (implNameB _ _ (by assumption)).mono ?_; rintro e w9 ⟨rfl, rfl⟩) | go_in)
  all_goals (go_ret; refine ⟨?_, (Below.refl _ _).alloc (Nat.le_refl _) _⟩)
  all_goals (show Ending.returned (Value.bool _) = Ending.returned (Value.bool _))
  all_goals (by_cases hz : n4 = 0 <;> by_cases hy : x3 = 0 <;> (try subst hz) <;> (try subst hy) <;> first | (simp_all [opB, emptyB]; done) | (simp_all [opB, emptyB]; omega) | (simp_all [opB]; done) | (simp_all [opB]; omega))

theorem implOp_any (k : Int) (x1 x2 : ByteArray) (x3 : Int) (a4 : Option Addr) (n4 c4 : Nat) (w : World) (h1 : x1.size ≤ maxLen) (h2 : x2.size ≤ maxLen) :
    Calls Try.prog 7 #[.agg #[.int .i64 k, .string x1, .string x2, .int .i64 x3, .slice a4 n4 c4]] w fun e w' => e = .returned (.bool (opB k x1 x2 x3 n4)) ∧ Below w.heap.size w w' := by
  rcases Int.lt_or_le k 1 with h | h
  · exact implOpLo k x1 x2 x3 a4 n4 c4 w h1 h2 h
  rcases Int.lt_or_le 7 k with h' | h'
  · exact implOpHi k x1 x2 x3 a4 n4 c4 w h1 h2 h'
  have hk : k = 1 ∨ k = 2 ∨ k = 3 ∨ k = 4 ∨ k = 5 ∨ k = 6 ∨ k = 7 := by omega
  rcases hk with rfl | rfl | rfl | rfl | rfl | rfl | rfl
  · exact implOp1 x1 x2 x3 a4 n4 c4 w h1 h2
  · exact implOp2 x1 x2 x3 a4 n4 c4 w h1 h2
  · exact implOp3 x1 x2 x3 a4 n4 c4 w h1 h2
  · exact implOp4 x1 x2 x3 a4 n4 c4 w h1 h2
  · exact implOp5 x1 x2 x3 a4 n4 c4 w h1 h2
  · exact implOp6 x1 x2 x3 a4 n4 c4 w h1 h2
  · exact implOp7 x1 x2 x3 a4 n4 c4 w h1 h2

end Go.Proofs.Ytpdgjejgjbjamab
