/-
  The program's looks at a grid: sidesOk, placeOk, halfAt, rowOk, rowOf, rowsOk, cursorOk, GridOk.
-/
import Derived.Test.YthgbionamelloaaDoorGrP
import Derived.Test.YthgbionamelloaaDoorInts
import Derived.Test.YthgbionamelloaaDoorPlain
namespace Go.Proofs.YthgbionamelloaaDoor
open Go.RowKit
set_option linter.unusedVariables false

set_option maxHeartbeats 1000000 in
theorem sides_any (x y : Int) (w : World) :
    Calls Tryd.prog 30 #[.int .i64 x, .int .i64 y] w fun e w' => e = .returned (.bool (sidesB x y)) ∧ w' = w := by
  have hc : x < 2 ∨ (2 ≤ x ∧ 200 < x) ∨ (2 ≤ x ∧ x ≤ 200 ∧ y < 1) ∨ (2 ≤ x ∧ x ≤ 200 ∧ 1 ≤ y ∧ 200 < y) ∨ (2 ≤ x ∧ x ≤ 200 ∧ 1 ≤ y ∧ y ≤ 200 ∧ 8000 < x * y) ∨ (2 ≤ x ∧ x ≤ 200 ∧ 1 ≤ y ∧ y ≤ 200 ∧ x * y ≤ 8000) := by omega
  rcases hc with h | ⟨h1, h⟩ | ⟨h1, h2, h⟩ | ⟨h1, h2, h3, h⟩ | ⟨h1, h2, h3, h4, h⟩ | ⟨h1, h2, h3, h4, h⟩
  · have E : sidesB x y = false := by cases hs : sidesB x y with | false => rfl | true => exact absurd (sidesB_iff.1 hs).1 (by omega)
    rw [E]
    have d1 : decide (2 ≤ x) = false := decide_eq_false (by omega)
    go_enter Tryd.func30, Tryd.ntmps30
    go_wp2
    go_ret
    exact ⟨rfl, rfl⟩
  · have E : sidesB x y = false := by cases hs : sidesB x y with | false => rfl | true => exact absurd (sidesB_iff.1 hs).2.1 (by omega)
    rw [E]
    have d1 : decide (2 ≤ x) = true := decide_eq_true h1
    have d2 : decide (x ≤ 200) = false := decide_eq_false (by omega)
    go_enter Tryd.func30, Tryd.ntmps30
    go_wp2
    go_ret
    exact ⟨rfl, rfl⟩
  · have E : sidesB x y = false := by cases hs : sidesB x y with | false => rfl | true => exact absurd (sidesB_iff.1 hs).2.2.1 (by omega)
    rw [E]
    have d1 : decide (2 ≤ x) = true := decide_eq_true h1
    have d2 : decide (x ≤ 200) = true := decide_eq_true h2
    have d3 : decide (1 ≤ y) = false := decide_eq_false (by omega)
    go_enter Tryd.func30, Tryd.ntmps30
    go_wp2
    go_ret
    exact ⟨rfl, rfl⟩
  · have E : sidesB x y = false := by cases hs : sidesB x y with | false => rfl | true => exact absurd (sidesB_iff.1 hs).2.2.2.1 (by omega)
    rw [E]
    have d1 : decide (2 ≤ x) = true := decide_eq_true h1
    have d2 : decide (x ≤ 200) = true := decide_eq_true h2
    have d3 : decide (1 ≤ y) = true := decide_eq_true h3
    have d4 : decide (y ≤ 200) = false := decide_eq_false (by omega)
    go_enter Tryd.func30, Tryd.ntmps30
    go_wp2
    go_ret
    exact ⟨rfl, rfl⟩
  · have E : sidesB x y = false := by cases hs : sidesB x y with | false => rfl | true => exact absurd (sidesB_iff.1 hs).2.2.2.2 (by omega)
    rw [E]
    have hb := mul_bd h1 h2 h3 h4
    have w1 : IntKind.i64.wrap (x * y) = x * y := wrap_i64_in _ (by omega) (by omega)
    have d1 : decide (2 ≤ x) = true := decide_eq_true h1
    have d2 : decide (x ≤ 200) = true := decide_eq_true h2
    have d3 : decide (1 ≤ y) = true := decide_eq_true h3
    have d4 : decide (y ≤ 200) = true := decide_eq_true h4
    have d5 : decide (x * y ≤ 8000) = false := decide_eq_false (by omega)
    go_enter Tryd.func30, Tryd.ntmps30
    go_wp2
    go_ret
    exact ⟨rfl, rfl⟩
  · have E : sidesB x y = true := sidesB_iff.2 ⟨h1, h2, h3, h4, h⟩
    rw [E]
    have hb := mul_bd h1 h2 h3 h4
    have w1 : IntKind.i64.wrap (x * y) = x * y := wrap_i64_in _ (by omega) (by omega)
    have d1 : decide (2 ≤ x) = true := decide_eq_true h1
    have d2 : decide (x ≤ 200) = true := decide_eq_true h2
    have d3 : decide (1 ≤ y) = true := decide_eq_true h3
    have d4 : decide (y ≤ 200) = true := decide_eq_true h4
    have d5 : decide (x * y ≤ 8000) = true := decide_eq_true h
    go_enter Tryd.func30, Tryd.ntmps30
    go_wp2
    go_ret
    exact ⟨rfl, rfl⟩

set_option maxHeartbeats 1000000 in
theorem half_any (a : Option Addr) (n cap x : Nat) (zs : List Int) (w : World) (hl : Hid (zs.length = n)) (hr : RdI w a zs) (hx : x ≤ 1000000) :
    Calls Tryd.prog 44 #[.slice a n cap, .int .i64 x] w fun e w' => e = .returned (.bool (decide (x < n) && decide (at0 zs x = -1))) ∧ w' = w := by
  by_cases h : x < n
  · have hne : zs ≠ [] := by intro h'; have := hl.out; subst h'; simp at this; omega
    obtain ⟨b, off, rfl, hb, hc⟩ := hr.resolve_left hne
    obtain ⟨r, hr'⟩ : ∃ r, r = at0 zs x := ⟨_, rfl⟩
    have hcell : w.cell? ⟨b, off + x, none⟩ = some (.int .i64 r) := by rw [hr']; exact hc x (by have := hl.out; omega)
    rw [← hr']
    have d1 : decide (x < n) = true := decide_eq_true h
    have h1 : (x : Int) < (n : Int) := by omega
    clear hr' hc hne hr hl
    rw [d1]
    by_cases hm : r = -1
    · subst hm
      go_enter Tryd.func44, Tryd.ntmps44
      go_wp2
      go_ret
      exact ⟨rfl, rfl⟩
    · have d2 : (r == -1) = false := by simpa using hm
      have d3 : decide (r = -1) = false := by simpa using hm
      rw [d3]
      go_enter Tryd.func44, Tryd.ntmps44
      go_wp2
      go_ret
      exact ⟨rfl, rfl⟩
  · have d1 : decide (x < n) = false := decide_eq_false h
    have h1 : ¬ (x : Int) < (n : Int) := by omega
    rw [d1]
    go_enter Tryd.func44, Tryd.ntmps44
    go_wp2
    go_ret
    exact ⟨rfl, rfl⟩

set_option maxHeartbeats 2000000 in
theorem rowOk_any (a : Option Addr) (n cap : Nat) (zs : List Int) (w : World) (hl : Hid (zs.length = n)) (hr : RdI w a zs) (hn : n ≤ 200) :
    Calls Tryd.prog 37 #[.slice a n cap] w fun e w' => e = .returned (.bool (cellsB zs n n)) ∧ w' = w := by
  have HR : Hid (RdI w a zs) := hr
  clear hr
  go_enter Tryd.func37, Tryd.ntmps37
  go_wp2
  go_loop [3] (fun i => ∃ k : Nat, k ≤ n ∧ i = .int .i64 k ∧ Hid (begins zs n k)) (fun i => n - (intOf i).toNat)
  case atStart => exact ⟨0, Nat.zero_le _, rfl, begins_zero _ _⟩
  case round =>
    obtain ⟨k, hk, rfl, hB⟩ := hrel
    by_cases hlt : k < n
    · have hne : zs ≠ [] := by intro h'; have := hl.out; subst h'; simp at this; omega
      obtain ⟨b, off, rfl, hb, hc⟩ := HR.out.resolve_left hne
      obtain ⟨r, hr'⟩ : ∃ r, r = at0 zs k := ⟨_, rfl⟩
      have hcell : w.cell? ⟨b, off + k, none⟩ = some (.int .i64 r) := by rw [hr']; exact hc k (by have := hl.out; omega)
      have HE : Hid (r = at0 zs k) := hr'
      have qw : Hid (Calls Tryd.prog 43 #[.int .i64 r] w fun e w' => e = .returned (.int .i64 (wd r)) ∧ w' = w) := implWid_any r w
      have qh : Hid (Calls Tryd.prog 44 #[.slice (some ⟨b, off, none⟩) n cap, .int .i64 ((k : Int) + 1)] w fun e w' => e = .returned (.bool (decide (k + 1 < n) && decide (at0 zs (k + 1) = -1))) ∧ w' = w) := by
        have := half_any (some ⟨b, off, none⟩) n cap (k + 1) zs w hl HR.out (by omega)
        exact this
      clear hr' hc hne
      have hbd := wd_bd r
      have h3 : wd r = 0 ∨ wd r = 1 ∨ wd r = 2 := by omega
      rcases h3 with h3 | h3 | h3
      · have E : Hid (cellsB zs n n = false) := cellsB_no (begins_none hB.out hlt (by rw [← HE.out]; exact h3)) hlt
        rw [h3] at qw
        clear h3 hbd
        go_wp2_with (first | (go_at_call 43; refine qw.out.mono ?_; rintro e w1 ⟨rfl, rfl⟩))
        go_ret
        exact ⟨by rw [E.out]; rfl, rfl⟩
      · have HB : Hid (begins zs n (k + 1)) := begins_one hB.out hlt (by rw [← HE.out]; exact h3)
        rw [h3] at qw
        clear h3 hbd
        go_wp2_with (first | (go_at_call 43; refine qw.out.mono ?_; rintro e w1 ⟨rfl, rfl⟩))
        go_round
        case rel => exact ⟨k + 1, by omega, by go_num, HB⟩
        case measure => simp [intOf]; omega
      · rw [h3] at qw
        by_cases hh : k + 1 < n ∧ at0 zs (k + 1) = -1
        · have HB : Hid (begins zs n (k + 2)) := begins_two hB.out hh.1 (by rw [← HE.out]; exact h3) hh.2
          have hk2 : k + 2 ≤ n := by omega
          have e1 : (decide (k + 1 < n) && decide (at0 zs (k + 1) = -1)) = true := by rw [decide_eq_true hh.1, decide_eq_true hh.2]; rfl
          rw [e1] at qh
          clear e1 hh h3 hbd
          go_wp2_with (first | (go_at_call 43; refine qw.out.mono ?_; rintro e w1 ⟨rfl, rfl⟩) | (go_at_call 44; refine qh.out.mono ?_; rintro e w1 ⟨rfl, rfl⟩))
          go_round
          case rel => exact ⟨k + 2, hk2, by go_num, HB⟩
          case measure => simp [intOf]; omega
        · have E : Hid (cellsB zs n n = false) := cellsB_no (begins_cut hlt (by rw [← HE.out]; exact h3) (fun h1 h2 => hh ⟨h1, h2⟩)) hlt
          have e1 : (decide (k + 1 < n) && decide (at0 zs (k + 1) = -1)) = false := by
            rw [Bool.and_eq_false_iff, decide_eq_false_iff_not, decide_eq_false_iff_not]
            by_cases h1 : k + 1 < n
            · exact .inr fun h2 => hh ⟨h1, h2⟩
            · exact .inl h1
          rw [e1] at qh
          clear e1 hh h3 hbd
          go_wp2_with (first | (go_at_call 43; refine qw.out.mono ?_; rintro e w1 ⟨rfl, rfl⟩) | (go_at_call 44; refine qh.out.mono ?_; rintro e w1 ⟨rfl, rfl⟩))
          go_ret
          exact ⟨by rw [E.out]; rfl, rfl⟩
    · have e : k = n := by omega
      subst e
      have E : Hid (cellsB zs k k = true) := hB.out.1
      go_wp2
      go_ret
      exact ⟨by rw [E.out]; rfl, rfl⟩

end Go.Proofs.YthgbionamelloaaDoor
