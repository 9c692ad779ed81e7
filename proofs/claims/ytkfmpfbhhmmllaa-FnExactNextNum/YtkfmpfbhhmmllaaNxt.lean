/-
  NextNum of both sides. By program (nxtgen.py).
-/
import Derived.Test.YtkfmpfbhhmmllaaTyStore
import Derived.Test.YtkfmpfbhhmmllaaPlain
import Derived.Test.YtkfmpfbhhmmllaaEnsP
namespace Go.Proofs.Ytkfmpfbhhmmllaa
open Go.RowKit
set_option linter.unusedVariables false

/-- The number behind the last of a list. -/
def nextA (l : List EntD) : Int := match l.getLast? with
  | none => 1
  | some x => if 1 ≤ x.1 ∧ x.1 ≤ 1000000000 then x.1 + 1 else 0

theorem nextA_nil : nextA [] = 1 := rfl
theorem nextA_at {l : List EntD} {k : Nat} {x : EntD} (hl : l.length = k + 1) (hx : l[k]? = some x) : nextA l = if 1 ≤ x.1 ∧ x.1 ≤ 1000000000 then x.1 + 1 else 0 := by
  unfold nextA
  rw [List.getLast?_eq_getElem?, hl, Nat.add_sub_cancel, hx]

set_option maxRecDepth 100000 in
set_option maxHeartbeats 2000000 in
theorem implNext_any (cs : List Value) (d : shStore.D) (w : World) (hr : Reads shStore w cs d) :
    Calls Try.prog 7 #[.agg cs.toArray] w fun e w' => e = .returned (.int .i64 (nextA d.2.2.2.1)) ∧ Below w.heap.size w w' := by
  obtain ⟨a3, n3, c3, a4, n4, c4, a5, n5, c5, a8, n8, c8, rfl, r0, r3⟩ := open_Store hr
  obtain ⟨x0, e0⟩ : ∃ x : Int, x = d.1.1 := ⟨_, rfl⟩
  obtain ⟨x1, e1⟩ : ∃ x : Int, x = d.1.2.1 := ⟨_, rfl⟩
  obtain ⟨x2, e2⟩ : ∃ x : Int, x = d.1.2.2.1 := ⟨_, rfl⟩
  obtain ⟨x6, e6⟩ : ∃ x : Int, x = d.2.1 := ⟨_, rfl⟩
  obtain ⟨x7, e7⟩ : ∃ x : Int, x = d.2.2.1 := ⟨_, rfl⟩
  obtain ⟨x9, e9⟩ : ∃ x : Int, x = d.2.2.2.2.1 := ⟨_, rfl⟩
  rw [← e0, ← e1, ← e2, ← e6, ← e7, ← e9]
  obtain ⟨l8, c8m, c8x⟩ := reads_len r3
  unfold maxLen at c8x
  obtain ⟨l, hl⟩ : ∃ l : List EntD, l = d.2.2.2.1 := ⟨_, rfl⟩
  have r3' : Reads (.sl shEntry) w [.slice a8 n8 c8] l := by rw [hl]; exact r3
  have l8' : l.length = n8 := by rw [hl]; exact l8
  rw [← hl]
  have HR : Hid (Reads (.sl shEntry) w [.slice a8 n8 c8] l) := r3'
  have HL : Hid (l.length = n8) := l8'
  clear hr r0 r3 r3' l8 l8' hl e0 e1 e2 e6 e7 e9
  obtain ⟨W0, hW0⟩ : ∃ W0, W0 = w.alloc (.cells #[.int .i64 x0, .int .i64 x1, .int .i64 x2, .slice a3 n3 c3, .slice a4 n4 c4, .slice a5 n5 c5, .int .i64 x6, .int .i64 x7, .slice a8 n8 c8, .int .i64 x9] 39) := ⟨_, rfl⟩
  have bW0 : Below w.heap.size w W0 := by rw [hW0]; exact (Below.refl _ _).alloc (Nat.le_refl _) _
  by_cases hz : n8 = 0
  · have ez : nextA l = 1 := by
      have := HL.out
      rw [hz] at this
      rw [List.length_eq_zero_iff.1 this]; rfl
    subst hz
    have HZ : Hid (nextA l = 1) := ez
    have HW : Hid (W0 = _) := hW0
    clear ez hW0
    go_enter Try.func7, Try.ntmps7
    go_wp2
    go_ret
    exact ⟨by rw [HZ.out]; rfl, by rw [← HW.out]; exact bW0⟩
  · obtain ⟨m, hm⟩ : ∃ m, n8 = m + 1 := ⟨n8 - 1, by omega⟩
    subst hm
    obtain ⟨b, off, c, x, ha, hb, hx, hrx, hcell⟩ := reads_elem HR.out m (by omega)
    subst ha
    have EN := nextA_at HL.out hx
    obtain ⟨rfl, _⟩ := open_Entry hrx
    obtain ⟨y0, ey0⟩ : ∃ y : Int, y = x.1 := ⟨_, rfl⟩
    rw [← ey0] at EN
    have g0 : W0.cell? ⟨b, off + m * 2, none⟩ = some (.int .i64 y0) := by rw [ey0]; exact (bW0.cell (p := ⟨b, off + (m * 2 + 0), none⟩) hb).trans (hcell 0 (by decide))
    have h0 : (((m + 1 : Nat) : Int) == 0) = false := by simp; omega
    have h1 : ((m + 1 : Nat) : Int) - 1 = (m : Int) := by omega
    have h2 : IntKind.i64.wrap (m : Int) = (m : Int) := wrap_i64_in _ (by omega) (by omega)
    have HEN : Hid _ := EN
    have HW : Hid (W0 = _) := hW0
    have hbW : b < W0.heap.size := Nat.lt_of_lt_of_le hb bW0.size
    rw [hW0] at g0 hbW
    clear EN hrx hcell ey0 hW0 hx
    by_cases hk : 1 ≤ y0 ∧ y0 ≤ 1000000000
    · have ek : (decide (1 ≤ y0) && decide (y0 ≤ 1000000000)) = true := by simp [hk]
      have qs : Hid (∀ w', Calls Try.prog 13 #[.int .i64 y0] w' fun e w'' => e = .returned (.bool true) ∧ w'' = w') := fun w' => by have := seqOk_any y0 w'; rw [ek] at this; exact this
      have h3 : IntKind.i64.wrap (y0 + 1) = y0 + 1 := wrap_i64_in _ (by omega) (by omega)
      have HK : Hid (1 ≤ y0 ∧ y0 ≤ 1000000000) := hk
      clear hk ek
      go_enter Try.func7, Try.ntmps7
      go_wp2_with (go_at_call 13; refine (qs.out _).mono ?_; rintro e w9 ⟨rfl, rfl⟩)
      go_ret
      exact ⟨by rw [HEN.out, if_pos HK.out]; rfl, by rw [← HW.out]; exact bW0⟩
    · have ek : (decide (1 ≤ y0) && decide (y0 ≤ 1000000000)) = false := by simp only [Bool.and_eq_false_iff, decide_eq_false_iff_not]; omega
      have qs : Hid (∀ w', Calls Try.prog 13 #[.int .i64 y0] w' fun e w'' => e = .returned (.bool false) ∧ w'' = w') := fun w' => by have := seqOk_any y0 w'; rw [ek] at this; exact this
      have HK : Hid (¬ (1 ≤ y0 ∧ y0 ≤ 1000000000)) := hk
      clear hk ek
      go_enter Try.func7, Try.ntmps7
      go_wp2_with (go_at_call 13; refine (qs.out _).mono ?_; rintro e w9 ⟨rfl, rfl⟩)
      go_ret
      exact ⟨by rw [HEN.out, if_neg HK.out]; rfl, by rw [← HW.out]; exact bW0⟩

set_option maxRecDepth 100000 in
set_option maxHeartbeats 2000000 in
theorem specNext_any (cs : List Value) (d : shStore.D) (w : World) (hr : Reads shStore w cs d) :
    Calls Try.prog 5 #[.agg cs.toArray] w fun e w' => e = .returned (.int .i64 (nextA d.2.2.2.1)) ∧ Below w.heap.size w w' := by
  obtain ⟨a3, n3, c3, a4, n4, c4, a5, n5, c5, a8, n8, c8, rfl, r0, r3⟩ := open_Store hr
  obtain ⟨x0, e0⟩ : ∃ x : Int, x = d.1.1 := ⟨_, rfl⟩
  obtain ⟨x1, e1⟩ : ∃ x : Int, x = d.1.2.1 := ⟨_, rfl⟩
  obtain ⟨x2, e2⟩ : ∃ x : Int, x = d.1.2.2.1 := ⟨_, rfl⟩
  obtain ⟨x6, e6⟩ : ∃ x : Int, x = d.2.1 := ⟨_, rfl⟩
  obtain ⟨x7, e7⟩ : ∃ x : Int, x = d.2.2.1 := ⟨_, rfl⟩
  obtain ⟨x9, e9⟩ : ∃ x : Int, x = d.2.2.2.2.1 := ⟨_, rfl⟩
  rw [← e0, ← e1, ← e2, ← e6, ← e7, ← e9]
  obtain ⟨l8, c8m, c8x⟩ := reads_len r3
  unfold maxLen at c8x
  obtain ⟨l, hl⟩ : ∃ l : List EntD, l = d.2.2.2.1 := ⟨_, rfl⟩
  have r3' : Reads (.sl shEntry) w [.slice a8 n8 c8] l := by rw [hl]; exact r3
  have l8' : l.length = n8 := by rw [hl]; exact l8
  rw [← hl]
  have HR : Hid (Reads (.sl shEntry) w [.slice a8 n8 c8] l) := r3'
  have HL : Hid (l.length = n8) := l8'
  clear hr r0 r3 r3' l8 l8' hl e0 e1 e2 e6 e7 e9
  obtain ⟨W0, hW0⟩ : ∃ W0, W0 = w.alloc (.cells #[.int .i64 x0, .int .i64 x1, .int .i64 x2, .slice a3 n3 c3, .slice a4 n4 c4, .slice a5 n5 c5, .int .i64 x6, .int .i64 x7, .slice a8 n8 c8, .int .i64 x9] 39) := ⟨_, rfl⟩
  have bW0 : Below w.heap.size w W0 := by rw [hW0]; exact (Below.refl _ _).alloc (Nat.le_refl _) _
  by_cases hz : n8 = 0
  · have ez : nextA l = 1 := by
      have := HL.out
      rw [hz] at this
      rw [List.length_eq_zero_iff.1 this]; rfl
    subst hz
    have HZ : Hid (nextA l = 1) := ez
    have HW : Hid (W0 = _) := hW0
    clear ez hW0
    go_enter Try.func5, Try.ntmps5
    go_wp2
    go_ret
    exact ⟨by rw [HZ.out]; rfl, by rw [← HW.out]; exact bW0⟩
  · obtain ⟨m, hm⟩ : ∃ m, n8 = m + 1 := ⟨n8 - 1, by omega⟩
    subst hm
    obtain ⟨b, off, c, x, ha, hb, hx, hrx, hcell⟩ := reads_elem HR.out m (by omega)
    subst ha
    have EN := nextA_at HL.out hx
    obtain ⟨rfl, _⟩ := open_Entry hrx
    obtain ⟨y0, ey0⟩ : ∃ y : Int, y = x.1 := ⟨_, rfl⟩
    rw [← ey0] at EN
    have g0 : W0.cell? ⟨b, off + m * 2, none⟩ = some (.int .i64 y0) := by rw [ey0]; exact (bW0.cell (p := ⟨b, off + (m * 2 + 0), none⟩) hb).trans (hcell 0 (by decide))
    have h0 : (((m + 1 : Nat) : Int) == 0) = false := by simp; omega
    have h1 : ((m + 1 : Nat) : Int) - 1 = (m : Int) := by omega
    have h2 : IntKind.i64.wrap (m : Int) = (m : Int) := wrap_i64_in _ (by omega) (by omega)
    have HEN : Hid _ := EN
    have HW : Hid (W0 = _) := hW0
    have hbW : b < W0.heap.size := Nat.lt_of_lt_of_le hb bW0.size
    rw [hW0] at g0 hbW
    clear EN hrx hcell ey0 hW0 hx
    by_cases k1 : y0 < 1
    · have HK : Hid (¬ (1 ≤ y0 ∧ y0 ≤ 1000000000)) := by show ¬ _; omega
      go_enter Try.func5, Try.ntmps5
      go_wp2
      go_ret
      exact ⟨by rw [HEN.out, if_neg HK.out]; rfl, by rw [← HW.out]; exact bW0⟩
    by_cases k2 : (1000000000 : Int) < y0
    · have HK : Hid (¬ (1 ≤ y0 ∧ y0 ≤ 1000000000)) := by show ¬ _; omega
      go_enter Try.func5, Try.ntmps5
      go_wp2
      go_ret
      exact ⟨by rw [HEN.out, if_neg HK.out]; rfl, by rw [← HW.out]; exact bW0⟩
    have HK : Hid (1 ≤ y0 ∧ y0 ≤ 1000000000) := by show _ ∧ _; omega
    have h3 : IntKind.i64.wrap (y0 + 1) = y0 + 1 := wrap_i64_in _ (by omega) (by omega)
    go_enter Try.func5, Try.ntmps5
    go_wp2
    go_ret
    exact ⟨by rw [HEN.out, if_pos HK.out]; rfl, by rw [← HW.out]; exact bW0⟩

end Go.Proofs.Ytkfmpfbhhmmllaa
