/-
  RuneBytes, the model's.
-/
import Derived.Test.YtndlehogfedfaaaDoorRok
import Derived.Test.YtndlehogfedfaaaDoorKeep
import Derived.Test.YtndlehogfedfaaaDoorPlain
import Derived.Lib.RuneBytes
namespace Go.Proofs.YtndlehogfedfaaaDoor
open Go.RowKit
set_option linter.unusedVariables false

def rb (r : Int) : List Int := if rok r then Lib.encodeRuneZ r else []

theorem rok_true {r : Int} (h : rok r = true) : 0 ≤ r ∧ r ≤ 1114111 ∧ (r < 55296 ∨ 57343 < r) := by simpa [rok] using h

theorem rb_len (r : Int) : (rb r).length ≤ 4 := by
  unfold rb; split
  · exact (Lib.encodeRuneZ_length r).2
  · simp

theorem rb_byte (r : Int) : ∀ x ∈ rb r, 0 ≤ x ∧ x < 256 := by
  intro x hx
  unfold rb at hx
  split at hx
  · exact Lib.encodeRuneZ_byte r x hx
  · cases hx

theorem rb_bd (r : Int) (i : Nat) : 0 ≤ (rb r)[i]?.getD 0 ∧ (rb r)[i]?.getD 0 ≤ 255 := by
  by_cases h : i < (rb r).length
  · have := rb_byte r _ (List.getElem_mem h)
    simp [h]; omega
  · simp [h]

set_option maxHeartbeats 400000 in
theorem specRb_any (r : Int) (w : World) :
    Calls Tryd.prog 26 #[.int .i64 r] w fun e w' => ∃ v, e = .returned v ∧ w'.ownsRow w.heap.size 5 1 v (rb r).length ((rb r).map (Value.int .u8)) ∧ Below w.heap.size w w' := by
  by_cases hk : rok r = true
  · obtain ⟨h0, h1, h2⟩ := rok_true hk
    have HR : Hid (rb r = Lib.encodeRuneZ r) := by show rb r = _; simp [rb, hk]
    by_cases c1 : r < 128
    · have own := World.ownsRow_lit (base := w.heap.size) (e := 5) (size := 1) w #[.int .u8 r] 1 (Nat.le_refl _) (by decide) rfl
      have q : Lib.encodeRuneZ r = [r] := Lib.encodeRuneZ_one h0 (by omega)
      rw [HR.out, q]
      go_enter Tryd.func26, Tryd.ntmps26
      go_wp2_with fail
      refine (specRuneOk_any r _).mono ?_
      rintro e w1 ⟨rfl, rfl⟩
      rw [hk]
      go_wp2
      go_ret
      exact ⟨_, rfl, own, (Below.refl _ _).alloc (Nat.le_refl _) _⟩
    · by_cases c2 : r < 2048
      · have own := World.ownsRow_lit (base := w.heap.size) (e := 5) (size := 1) w #[.int .u8 (192 + r / 64), .int .u8 (128 + r % 64)] 2 (Nat.le_refl _) (by decide) rfl
        have q : Lib.encodeRuneZ r = _ := Lib.encodeRuneZ_two (by omega) (by omega)
        rw [HR.out, q]
        go_enter Tryd.func26, Tryd.ntmps26
        go_wp2_with fail
        refine (specRuneOk_any r _).mono ?_
        rintro e w1 ⟨rfl, rfl⟩
        rw [hk]
        go_wp2
        go_ret
        exact ⟨_, rfl, own, (Below.refl _ _).alloc (Nat.le_refl _) _⟩
      · by_cases c3 : r < 65536
        · have own := World.ownsRow_lit (base := w.heap.size) (e := 5) (size := 1) w #[.int .u8 (224 + r / 4096), .int .u8 (128 + r / 64 % 64), .int .u8 (128 + r % 64)] 3 (Nat.le_refl _) (by decide) rfl
          have q : Lib.encodeRuneZ r = _ := Lib.encodeRuneZ_three (by omega)
          rw [HR.out, q]
          go_enter Tryd.func26, Tryd.ntmps26
          go_wp2_with fail
          refine (specRuneOk_any r _).mono ?_
          rintro e w1 ⟨rfl, rfl⟩
          rw [hk]
          go_wp2
          go_ret
          exact ⟨_, rfl, own, (Below.refl _ _).alloc (Nat.le_refl _) _⟩
        · have own := World.ownsRow_lit (base := w.heap.size) (e := 5) (size := 1) w #[.int .u8 (240 + r / 262144), .int .u8 (128 + r / 4096 % 64), .int .u8 (128 + r / 64 % 64), .int .u8 (128 + r % 64)] 4 (Nat.le_refl _) (by decide) rfl
          have q : Lib.encodeRuneZ r = _ := Lib.encodeRuneZ_four (by omega) (by omega)
          rw [HR.out, q]
          go_enter Tryd.func26, Tryd.ntmps26
          go_wp2_with fail
          refine (specRuneOk_any r _).mono ?_
          rintro e w1 ⟨rfl, rfl⟩
          rw [hk]
          go_wp2
          go_ret
          exact ⟨_, rfl, own, (Below.refl _ _).alloc (Nat.le_refl _) _⟩
  · have hk' : rok r = false := by simpa using hk
    have q : rb r = [] := by simp [rb, hk']
    rw [q]
    go_enter Tryd.func26, Tryd.ntmps26
    go_wp2_with fail
    refine (specRuneOk_any r _).mono ?_
    rintro e w1 ⟨rfl, rfl⟩
    rw [hk']
    go_wp2
    go_ret
    exact ⟨_, rfl, World.ownsRow_nil _ _ _ _, Below.refl _ _⟩

set_option maxHeartbeats 400000 in
theorem specRb_no (r : Int) (w : World) (hk' : rok r = false) :
    Calls Tryd.prog 26 #[.int .i64 r] w fun e w' => e = .returned (.slice none 0 0) ∧ w' = w := by
  go_enter Tryd.func26, Tryd.ntmps26
  go_wp2_with fail
  refine (specRuneOk_any r _).mono ?_
  rintro e w1 ⟨rfl, rfl⟩
  rw [hk']
  go_wp2
  go_ret
  exact ⟨rfl, rfl⟩

theorem rb_pos {r : Int} (hk : rok r = true) : 0 < (rb r).length := by
  simp only [rb, hk, if_true]
  exact (Lib.encodeRuneZ_length r).1

theorem specRb_yes (r : Int) (w : World) (hk : rok r = true) :
    Calls Tryd.prog 26 #[.int .i64 r] w fun e w' => ∃ g c, e = .returned (.slice (some ⟨g, 0, none⟩) (rb r).length c) ∧
      w'.ownsRow w.heap.size 5 1 (.slice (some ⟨g, 0, none⟩) (rb r).length c) (rb r).length ((rb r).map (Value.int .u8)) ∧ Below w.heap.size w w' := by
  refine (specRb_any r w).mono ?_
  rintro e w1 ⟨v, rfl, ho, hb⟩
  obtain ⟨g, c, rfl, _⟩ := own_form ho (rb_pos hk)
  exact ⟨g, c, rfl, ho, hb⟩

end Go.Proofs.YtndlehogfedfaaaDoor
