/-
  Keep and Size of a store: keepingOk of the program, l06Range of the model.
-/
import Derived.Test.YtdmgknmlgipnpaaKeep
namespace Go.Proofs.Ytdmgknmlgipnpaa
open Go.RowKit
set_option linter.unusedVariables false

/-- Keep and Size are within their limits. -/
def keepB (k s : Int) : Bool := decide (1 ≤ k) && decide (k ≤ 100) && decide (0 ≤ s) && decide (s ≤ 60000)

theorem implKeep_ok (k s : Int) (w : World) : Calls Try.prog 17 #[.int .i64 k, .int .i64 s] w fun e w' => e = .returned (.bool (keepB k s)) ∧ w' = w := by
  by_cases h1 : 1 ≤ k
  rotate_left
  · have HB : Hid (keepB k s = false) := by show _ = _; unfold keepB; simp only [Bool.and_eq_false_iff, decide_eq_false_iff_not]; omega
    go_enter Try.func17, Try.ntmps17
    go_wp2
    go_ret
    exact ⟨by rw [HB.out]; rfl, rfl⟩
  by_cases h2 : k ≤ 100
  rotate_left
  · have HB : Hid (keepB k s = false) := by show _ = _; unfold keepB; simp only [Bool.and_eq_false_iff, decide_eq_false_iff_not]; omega
    go_enter Try.func17, Try.ntmps17
    go_wp2
    go_ret
    exact ⟨by rw [HB.out]; rfl, rfl⟩
  by_cases h3 : 0 ≤ s
  rotate_left
  · have HB : Hid (keepB k s = false) := by show _ = _; unfold keepB; simp only [Bool.and_eq_false_iff, decide_eq_false_iff_not]; omega
    go_enter Try.func17, Try.ntmps17
    go_wp2
    go_ret
    exact ⟨by rw [HB.out]; rfl, rfl⟩
  by_cases h4 : s ≤ 60000
  rotate_left
  · have HB : Hid (keepB k s = false) := by show _ = _; unfold keepB; simp only [Bool.and_eq_false_iff, decide_eq_false_iff_not]; omega
    go_enter Try.func17, Try.ntmps17
    go_wp2
    go_ret
    exact ⟨by rw [HB.out]; rfl, rfl⟩
  have HB : Hid (keepB k s = true) := by show _ = _; unfold keepB; simp [h1, h2, h3, h4]
  go_enter Try.func17, Try.ntmps17
  go_wp2
  go_ret
  exact ⟨by rw [HB.out]; rfl, rfl⟩

theorem specKeep_ok (k s : Int) (w : World) : Calls Try.prog 15 #[.int .i64 k, .int .i64 s] w fun e w' => e = .returned (.bool (keepB k s)) ∧ w' = w := by
  by_cases h1 : 1 ≤ k
  rotate_left
  · have HB : Hid (keepB k s = false) := by show _ = _; unfold keepB; simp only [Bool.and_eq_false_iff, decide_eq_false_iff_not]; omega
    go_enter Try.func15, Try.ntmps15
    go_wp2
    go_ret
    exact ⟨by rw [HB.out]; rfl, rfl⟩
  by_cases h2 : k ≤ 100
  rotate_left
  · have HB : Hid (keepB k s = false) := by show _ = _; unfold keepB; simp only [Bool.and_eq_false_iff, decide_eq_false_iff_not]; omega
    go_enter Try.func15, Try.ntmps15
    go_wp2
    go_ret
    exact ⟨by rw [HB.out]; rfl, rfl⟩
  by_cases h3 : 0 ≤ s
  rotate_left
  · have HB : Hid (keepB k s = false) := by show _ = _; unfold keepB; simp only [Bool.and_eq_false_iff, decide_eq_false_iff_not]; omega
    go_enter Try.func15, Try.ntmps15
    go_wp2
    go_ret
    exact ⟨by rw [HB.out]; rfl, rfl⟩
  by_cases h4 : s ≤ 60000
  rotate_left
  · have HB : Hid (keepB k s = false) := by show _ = _; unfold keepB; simp only [Bool.and_eq_false_iff, decide_eq_false_iff_not]; omega
    go_enter Try.func15, Try.ntmps15
    go_wp2
    go_ret
    exact ⟨by rw [HB.out]; rfl, rfl⟩
  have HB : Hid (keepB k s = true) := by show _ = _; unfold keepB; simp [h1, h2, h3, h4]
  go_enter Try.func15, Try.ntmps15
  go_wp2
  go_ret
  exact ⟨by rw [HB.out]; rfl, rfl⟩

end Go.Proofs.Ytdmgknmlgipnpaa
