/-
  keyOfSign: the key of a text that is no name (kosF).
-/
import Derived.Test.YtndlehogfedfaaaDoorTk
import Derived.Test.YtndlehogfedfaaaDoorRofX
namespace Go.Proofs.YtndlehogfedfaaaDoor
open Go.RowKit
set_option linter.unusedVariables false
set_option linter.unusedSimpArgs false
set_option maxRecDepth 100000

def preB (p s : ByteArray) : Bool := decide (2 ≤ s.size) && ((s.extract 0 2).toList == p.toList)
def gF (k : Int) (t : ByteArray) : Int × Int := if Lib.validD t.data.toList = true ∧ t.size ≤ 65536 ∧ (runes t).length = 1 then (k, (runes t)[0]?.getD 0) else (0, 0)
def kosF (s : ByteArray) : Int × Int :=
  if preB ⟨#[67, 45]⟩ s = true then gF 2 (s.extract 2 s.size) else if preB ⟨#[77, 45]⟩ s = true then gF 3 (s.extract 2 s.size) else gF 1 s

theorem hasPre_any (p s : ByteArray) (hp : p.size = 2) (w : World) :
    Calls Tryd.prog 41 #[.string s, .string p] w fun e w' => e = .returned (.bool (preB p s)) ∧ w' = w := by
  have hp' : (p.size : Int) = 2 := by omega
  by_cases h1 : 2 ≤ s.size
  · have hle : (2 : Int) ≤ (s.size : Int) := by omega
    have E : preB p s = ((s.extract 0 2).toList == p.toList) := by unfold preB; rw [decide_eq_true h1]; rfl
    rw [E]
    cases he : ((s.extract 0 2).toList == p.toList)
    all_goals
      clear E
      go_enter Tryd.func41, Tryd.ntmps41
      go_wp2
      go_ret
      exact ⟨rfl, rfl⟩
  · have hle : ¬ (2 : Int) ≤ (s.size : Int) := by omega
    have E : preB p s = false := by unfold preB; rw [decide_eq_false h1]; rfl
    rw [E]
    clear E
    go_enter Tryd.func41, Tryd.ntmps41
    go_wp2
    go_ret
    exact ⟨rfl, rfl⟩

theorem cutPreL_any (p s : ByteArray) (hp : p.size = 2) (w : World) :
    Calls Tryd.prog 37 #[.string s, .string p] w fun e w' => e = .returned (.tuple #[.string (if preB p s = true then s.extract 2 s.size else s), .bool (preB p s)]) ∧ w' = w := by
  have hp' : (p.size : Int) = 2 := by omega
  have q : Hid (∀ w', Calls Tryd.prog 41 #[.string s, .string p] w' fun e w'' => e = .returned (.bool (preB p s)) ∧ w'' = w') := fun w' => hasPre_any p s hp w'
  cases he : preB p s
  · rw [he] at q
    go_enter Tryd.func37, Tryd.ntmps37
    go_wp2_with fail
    refine (q.out _).mono ?_
    rintro e w1 ⟨rfl, rfl⟩
    go_wp2
    go_ret2
    exact ⟨rfl, rfl⟩
  · rw [he] at q
    have h1 : 2 ≤ s.size := by
      unfold preB at he
      simp only [Bool.and_eq_true, decide_eq_true_eq] at he
      exact he.1
    have hle : (2 : Int) ≤ (s.size : Int) := by omega
    clear he
    go_enter Tryd.func37, Tryd.ntmps37
    go_wp2_with fail
    refine (q.out _).mono ?_
    rintro e w1 ⟨rfl, rfl⟩
    go_wp2
    go_ret2
    exact ⟨rfl, rfl⟩

theorem cutPre_any (p s : ByteArray) (hp : p.size = 2) (w : World) :
    Calls Tryd.prog 32 #[.string s, .string p] w fun e w' => e = .returned (.tuple #[.string (if preB p s = true then s.extract 2 s.size else s), .bool (preB p s)]) ∧ w' = w := by
  have q : Hid (∀ w', Calls Tryd.prog 37 #[.string s, .string p] w' fun e w'' => e = .returned (.tuple #[.string (if preB p s = true then s.extract 2 s.size else s), .bool (preB p s)]) ∧ w'' = w') := fun w' => cutPreL_any p s hp w'
  obtain ⟨R, hR⟩ : ∃ R, R = if preB p s = true then s.extract 2 s.size else s := ⟨_, rfl⟩
  obtain ⟨B, hB⟩ : ∃ B, B = preB p s := ⟨_, rfl⟩
  rw [← hR, ← hB] at q
  rw [← hR, ← hB]
  clear hR hB
  go_enter Tryd.func32, Tryd.ntmps32
  go_wp2_with fail
  refine (q.out _).mono ?_
  rintro e w1 ⟨rfl, rfl⟩
  go_wp2
  go_ret2
  exact ⟨rfl, rfl⟩

/-- The runes of a text, whatever it is: the one rune or none. -/
theorem rofOne_any (s : ByteArray) (w : World) (hs : s.size ≤ maxLen) (hT : Tabs w) :
    Calls Tryd.prog 33 #[.string s] w fun e w' => Below w.heap.size w w' ∧ ∃ a n c b, e = .returned (.tuple #[.slice a n c, .bool b]) ∧
      ((n = 1 ∧ (∀ k, gF k s = (k, (runes s)[0]?.getD 0)) ∧ ∃ g, a = some ⟨g, 0, none⟩ ∧ g < w'.heap.size ∧ c ≤ maxLen ∧ 1 ≤ c ∧ w'.cell? ⟨g, 0, none⟩ = some (.int .i64 ((runes s)[0]?.getD 0))) ∨ (n ≠ 1 ∧ n ≤ 1000000 ∧ ∀ k, gF k s = (0, 0))) := by
  by_cases h : rofOk s
  · refine (implRof_yes s w hT h).mono ?_
    rintro e w' ⟨g, c, rfl, ho, hb⟩
    refine ⟨hb, _, _, _, _, rfl, ?_⟩
    by_cases h1 : (runes s).length = 1
    · refine Or.inl ⟨h1, fun k => by unfold gF; rw [if_pos ⟨h.2, h.1, h1⟩], g, rfl, ?_⟩
      rcases ho.2 with ⟨hv, h0⟩ | ⟨g', cap, cur, hv, hB, hh, k1, k2, k3, k4⟩
      · cases hv
      · simp only [Value.slice.injEq, Option.some.injEq, Addr.mk.injEq, and_true, true_and] at hv
        obtain ⟨rfl, rfl⟩ := hv
        refine ⟨(Array.getElem?_eq_some_iff.1 hh).1, k2, by omega, ?_⟩
        have e := congrArg (·[0]?) k4
        simp only [Nat.mul_one, h1, List.getElem?_take, List.getElem?_map] at e
        rw [Array.getElem?_toList] at e
        have hr : (runes s)[0]? = some ((runes s)[0]?.getD 0) := by
          have : 0 < (runes s).length := by omega
          simp [this]
        rw [hr] at e
        exact box_cell hh (by simpa using e)
    · refine Or.inr ⟨h1, ?_, fun k => by unfold gF; rw [if_neg (fun x => h1 x.2.2)]⟩
      have h9 := rn_len s s.size 0
      have h8 := h.1
      have : (runes s).length ≤ s.size := h9
      omega
  · refine (implRof_no s w hs hT h).mono ?_
    rintro e w' ⟨rfl, hb⟩
    exact ⟨hb, _, _, _, _, rfl, Or.inr ⟨by decide, by decide, fun k => by unfold gF; rw [if_neg (fun x => h ⟨x.2.1, x.1⟩)]⟩⟩

end Go.Proofs.YtndlehogfedfaaaDoor
