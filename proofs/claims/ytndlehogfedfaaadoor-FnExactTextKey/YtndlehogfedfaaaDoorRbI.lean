/-
  RuneBytes, the program's: over the library's contract of utf8.AppendRune.
-/
import Derived.Test.YtndlehogfedfaaaDoorRb
import Derived.Test.YtndlehogfedfaaaDoorShelf
namespace Go.Proofs.YtndlehogfedfaaaDoor
open Go.RowKit
set_option linter.unusedVariables false

set_option maxHeartbeats 400000 in
theorem implRb_any (r : Int) (w : World) :
    Calls Tryd.prog 27 #[.int .i64 r] w fun e w' => ∃ v, e = .returned v ∧ w'.ownsRow w.heap.size 5 1 v (rb r).length ((rb r).map (Value.int .u8)) ∧ Below w.heap.size w w' := by
  by_cases hk : rok r = true
  · obtain ⟨h0, h1, h2⟩ := rok_true hk
    have HR : Hid (rb r = Lib.encodeRuneZ r) := by show rb r = _; simp [rb, hk]
    rw [HR.out]
    go_enter Tryd.func27, Tryd.ntmps27
    go_wp2_with fail
    refine (implRuneOk_any r _).mono ?_
    rintro e w1 ⟨rfl, rfl⟩
    rw [hk]
    go_wp2_with fail
    refine (Tryd.utf8_AppendRune_plain w1.heap.size (.slice none 0 0) 0 [] r (by omega) (by omega) w1 (World.ownsRow_nil _ _ _ _) (by omega) (Nat.le_refl _)).mono ?_
    rintro e w2 ⟨v, rfl, hown, o, hg⟩
    have hb : Below w1.heap.size w1 w2 := ((Below.refl _ _).alloc (Nat.le_refl _) o).grown hg (by simp) (fun k h => by cases h)
    have HO : Hid _ := hown
    clear hown hg
    go_wp2
    go_ret
    refine ⟨v, rfl, ?_, hb⟩
    have e1 : 0 + (Lib.runeCells r).length = (Lib.encodeRuneZ r).length := by simp [Lib.runeCells]
    have := HO.out
    rw [e1] at this
    exact this
  · have hk' : rok r = false := by simpa using hk
    have q : rb r = [] := by simp [rb, hk']
    rw [q]
    go_enter Tryd.func27, Tryd.ntmps27
    go_wp2_with fail
    refine (implRuneOk_any r _).mono ?_
    rintro e w1 ⟨rfl, rfl⟩
    rw [hk']
    go_wp2
    go_ret
    exact ⟨_, rfl, World.ownsRow_nil _ _ _ _, Below.refl _ _⟩

set_option maxHeartbeats 400000 in
theorem implRb_no (r : Int) (w : World) (hk' : rok r = false) :
    Calls Tryd.prog 27 #[.int .i64 r] w fun e w' => e = .returned (.slice none 0 0) ∧ w' = w := by
  go_enter Tryd.func27, Tryd.ntmps27
  go_wp2_with fail
  refine (implRuneOk_any r _).mono ?_
  rintro e w1 ⟨rfl, rfl⟩
  rw [hk']
  go_wp2
  go_ret
  exact ⟨rfl, rfl⟩

theorem implRb_yes (r : Int) (w : World) (hk : rok r = true) :
    Calls Tryd.prog 27 #[.int .i64 r] w fun e w' => ∃ g c, e = .returned (.slice (some ⟨g, 0, none⟩) (rb r).length c) ∧
      w'.ownsRow w.heap.size 5 1 (.slice (some ⟨g, 0, none⟩) (rb r).length c) (rb r).length ((rb r).map (Value.int .u8)) ∧ Below w.heap.size w w' := by
  refine (implRb_any r w).mono ?_
  rintro e w1 ⟨v, rfl, ho, hb⟩
  obtain ⟨g, c, rfl, _⟩ := own_form ho (rb_pos hk)
  exact ⟨g, c, rfl, ho, hb⟩

end Go.Proofs.YtndlehogfedfaaaDoor

