/-
  readFrame of the program: the codes 1 and 2. By program (rigen.py).
-/
import Derived.Test.YtbjmjmammpgbmaaRfC
import Derived.Test.YtbjmjmammpgbmaaRfIP
import Derived.Test.YtbjmjmammpgbmaaGetI
import Derived.Test.YtbjmjmammpgbmaaFrI
import Derived.Test.YtbjmjmammpgbmaaNeedI
import Derived.Test.YtbjmjmammpgbmaaEnt
import Derived.Test.YtbjmjmammpgbmaaPlain
import Derived.Deep.RegionHeld3
import Derived.Handy
namespace Go.Proofs.Ytbjmjmammpgbmaa
open Go.RowKit
set_option linter.unusedVariables false
set_option linter.unusedSimpArgs false

set_option maxRecDepth 100000 in
set_option maxHeartbeats 4000000 in
theorem readRf_near (a : Option Addr) (n c : Nat) (p : Int) (w : World) (hn : n ≤ 1048576) (hp1 : -9223372036854775808 ≤ p) (hp2 : p ≤ 9223372036854775807) (k : Int)
    (h : (p < 0 ∧ k = 1) ∨ (¬ p < 0 ∧ (n : Int) < p ∧ k = 1) ∨ (¬ p < 0 ∧ ¬ (n : Int) < p ∧ (n : Int) - p < 10 ∧ k = 2)) :
    Calls Try.prog 34 #[.slice a n c, .int .i64 p] w fun e w' => e = .panicked [{ v := .iface 55 (.int .i64 k), recovered := false }] ∧ Below w.heap.size w w' := by
  have bW0 : Below w.heap.size w (w.alloc (.cells #[.int .i64 0, .string ⟨#[]⟩] 33)) := (Below.refl _ _).alloc (Nat.le_refl _) _
  rcases h with ⟨h1, rfl⟩ | ⟨h1, h2, rfl⟩ | ⟨h1, h2, h3, rfl⟩
  · have e1 : decide ((0 : Int) ≤ p) = false := by simp; omega
    have e2 : ¬ (0 : Int) ≤ p := by omega
    go_enter Try.func34, Try.ntmps34
    go_wp2_with fail
    refine (need_no 1 _).mono ?_
    rintro e w9 ⟨rfl, rfl⟩
    go_wp2_with fail
    exact ⟨rfl, rfl, bW0⟩
  · have e1 : (0 : Int) ≤ p := by omega
    have e2 : decide (p ≤ (n : Int)) = false := by simp; omega
    have e3 : ¬ p ≤ (n : Int) := by omega
    go_enter Try.func34, Try.ntmps34
    go_wp2_with fail
    refine (need_no 1 _).mono ?_
    rintro e w9 ⟨rfl, rfl⟩
    go_wp2_with fail
    exact ⟨rfl, rfl, bW0⟩
  · have e1 : (0 : Int) ≤ p := by omega
    have e2 : p ≤ (n : Int) := by omega
    have e3 : ¬ (10 : Int) ≤ (n : Int) - p := by omega
    have e4 : decide ((10 : Int) ≤ (n : Int) - p) = false := by simp; omega
    go_enter Try.func34, Try.ntmps34
    go_wp2_with fail
    refine (need_yes 1 _).mono ?_
    rintro e w9 ⟨rfl, rfl⟩
    go_wp2_with fail
    refine (need_no 2 _).mono ?_
    rintro e w9 ⟨rfl, rfl⟩
    go_wp2_with fail
    exact ⟨rfl, rfl, bW0⟩

end Go.Proofs.Ytbjmjmammpgbmaa
