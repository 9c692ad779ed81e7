/-
  NameOk, the model's and the program's.
-/
import Derived.Test.YtkjnbjohicgooaaGreatKeep
namespace Go.Proofs.YtkjnbjohicgooaaGreat
open Go.RowKit
set_option linter.unusedVariables false

/-- The first k bytes are from a to z. -/
def azTo (s : ByteArray) (k : Nat) : Prop := ∀ i, i < k → ∀ h : i < s.size, 97 ≤ (s[i]'h).toNat ∧ (s[i]'h).toNat ≤ 122

/-- A name. -/
def isName (s : ByteArray) : Prop := 1 ≤ s.size ∧ s.size ≤ 12 ∧ azTo s s.size

theorem azTo_succ {s : ByteArray} {k : Nat} (h : azTo s k) (hk : k < s.size) (h1 : 97 ≤ (s[k]'hk).toNat) (h2 : (s[k]'hk).toNat ≤ 122) : azTo s (k + 1) := by
  intro i hi hs
  by_cases e : i = k
  · subst e; exact ⟨h1, h2⟩
  · exact h i (by omega) hs

open Classical in
set_option maxHeartbeats 1000000 in
theorem specName_any (s : ByteArray) (w : World) (hs : s.size ≤ maxLen) :
    Calls Tryz.prog 83 #[.string s] w fun e w' => e = .returned (.bool (decide (isName s))) ∧ w' = w := by
  unfold maxLen at hs
  by_cases h1 : s.size < 1
  · have e : decide (isName s) = false := decide_eq_false (fun h => by have := h.1; omega)
    have h1' : (s.size : Int) < 1 := by omega
    rw [e]
    go_enter Tryz.func83, Tryz.ntmps83
    go_wp2
    go_ret
    exact ⟨rfl, rfl⟩
  · by_cases h2 : 12 < s.size
    · have e : decide (isName s) = false := decide_eq_false (fun h => by have := h.2.1; omega)
      have h1' : ¬ (s.size : Int) < 1 := by omega
      have h2' : (12 : Int) < (s.size : Int) := by omega
      rw [e]
      go_enter Tryz.func83, Tryz.ntmps83
      go_wp2
      go_ret
      exact ⟨rfl, rfl⟩
    · have h1' : ¬ (s.size : Int) < 1 := by omega
      have h2' : ¬ (12 : Int) < (s.size : Int) := by omega
      have d1 : decide ((s.size : Int) < 1) = false := decide_eq_false h1'
      have d2 : decide ((12 : Int) < (s.size : Int)) = false := decide_eq_false h2'
      have d3 : decide (12 < s.size) = false := decide_eq_false h2
      have d4 : decide (s.size < 1) = false := decide_eq_false h1
      go_enter Tryz.func83, Tryz.ntmps83
      go_wp2
      go_loop [3] (fun i => ∃ k : Nat, k ≤ s.size ∧ i = .int .i64 k ∧ Hid (azTo s k)) (fun i => s.size - (intOf i).toNat)
      case atStart => exact ⟨0, Nat.zero_le _, rfl, fun i hi => by omega⟩
      case round =>
        obtain ⟨k, hk, rfl, haz⟩ := hrel
        by_cases hlt : k < s.size
        · have hlt' : (k : Int) < (s.size : Int) := by omega
          by_cases b1 : (s[k]'hlt).toNat < 97
          · have E : Hid (decide (isName s) = false) := decide_eq_false (fun h => by have := (h.2.2 k hlt hlt).1; omega)
            have b1' : ((s[k]'hlt).toNat : Int) < 97 := by omega
            go_wp2
            go_ret
            exact ⟨by rw [E.out]; rfl, rfl⟩
          · have b1' : ¬ ((s[k]'hlt).toNat : Int) < 97 := by omega
            by_cases b2 : 122 < (s[k]'hlt).toNat
            · have E : Hid (decide (isName s) = false) := decide_eq_false (fun h => by have := (h.2.2 k hlt hlt).2; omega)
              have b2' : (122 : Int) < ((s[k]'hlt).toNat : Int) := by omega
              go_wp2
              go_ret
              exact ⟨by rw [E.out]; rfl, rfl⟩
            · have b2' : ¬ (122 : Int) < ((s[k]'hlt).toNat : Int) := by omega
              have HN : Hid (azTo s (k + 1)) := azTo_succ haz.out hlt (by omega) (by omega)
              go_wp2
              go_round
              case rel => exact ⟨k + 1, by omega, by go_num, HN⟩
              case measure => simp [intOf]; omega
        · have E : Hid (decide (isName s) = true) := decide_eq_true ⟨by omega, by omega, fun i hi hs' => haz.out i (by omega) hs'⟩
          go_wp2
          go_ret
          exact ⟨by rw [E.out]; rfl, rfl⟩

open Classical in
set_option maxHeartbeats 1000000 in
theorem implName_any (s : ByteArray) (w : World) (hs : s.size ≤ maxLen) :
    Calls Tryz.prog 121 #[.string s] w fun e w' => e = .returned (.bool (decide (isName s))) ∧ w' = w := by
  unfold maxLen at hs
  by_cases h1 : s.size < 1
  · have e : decide (isName s) = false := decide_eq_false (fun h => by have := h.1; omega)
    have h1' : (s.size : Int) < 1 := by omega
    rw [e]
    go_enter Tryz.func121, Tryz.ntmps121
    go_wp2
    go_ret
    exact ⟨rfl, rfl⟩
  · by_cases h2 : 12 < s.size
    · have e : decide (isName s) = false := decide_eq_false (fun h => by have := h.2.1; omega)
      have h1' : ¬ (s.size : Int) < 1 := by omega
      have h2' : (12 : Int) < (s.size : Int) := by omega
      rw [e]
      go_enter Tryz.func121, Tryz.ntmps121
      go_wp2
      go_ret
      exact ⟨rfl, rfl⟩
    · have h1' : ¬ (s.size : Int) < 1 := by omega
      have h2' : ¬ (12 : Int) < (s.size : Int) := by omega
      have d1 : decide ((s.size : Int) < 1) = false := decide_eq_false h1'
      have d2 : decide ((12 : Int) < (s.size : Int)) = false := decide_eq_false h2'
      have d3 : decide (12 < s.size) = false := decide_eq_false h2
      have d4 : decide (s.size < 1) = false := decide_eq_false h1
      go_enter Tryz.func121, Tryz.ntmps121
      go_wp2
      go_loop [14] (fun i => ∃ k : Nat, k ≤ s.size ∧ i = .int .i64 k ∧ Hid (azTo s k)) (fun i => s.size - (intOf i).toNat)
      case atStart => exact ⟨0, Nat.zero_le _, rfl, fun i hi => by omega⟩
      case round =>
        obtain ⟨k, hk, rfl, haz⟩ := hrel
        by_cases hlt : k < s.size
        · have hlt' : (k : Int) < (s.size : Int) := by omega
          by_cases b1 : (s[k]'hlt).toNat < 97
          · have E : Hid (decide (isName s) = false) := decide_eq_false (fun h => by have := (h.2.2 k hlt hlt).1; omega)
            have b1' : ((s[k]'hlt).toNat : Int) < 97 := by omega
            go_wp2
            go_ret
            exact ⟨by rw [E.out]; rfl, rfl⟩
          · have b1' : ¬ ((s[k]'hlt).toNat : Int) < 97 := by omega
            by_cases b2 : 122 < (s[k]'hlt).toNat
            · have E : Hid (decide (isName s) = false) := decide_eq_false (fun h => by have := (h.2.2 k hlt hlt).2; omega)
              have b2' : (122 : Int) < ((s[k]'hlt).toNat : Int) := by omega
              go_wp2
              go_ret
              exact ⟨by rw [E.out]; rfl, rfl⟩
            · have b2' : ¬ (122 : Int) < ((s[k]'hlt).toNat : Int) := by omega
              have HN : Hid (azTo s (k + 1)) := azTo_succ haz.out hlt (by omega) (by omega)
              go_wp2
              go_round
              case rel => exact ⟨k + 1, by omega, by go_num, HN⟩
              case measure => simp [intOf]; omega
        · have E : Hid (decide (isName s) = true) := decide_eq_true ⟨by omega, by omega, fun i hi hs' => haz.out i (by omega) hs'⟩
          go_wp2
          go_ret
          exact ⟨by rw [E.out]; rfl, rfl⟩

/-- The word of NameOk. -/
def nameB (s : ByteArray) : Bool := decide (1 ≤ s.size) && decide (s.size ≤ 12) && (List.range s.size).all fun i => if h : i < s.size then decide (97 ≤ (s[i]'h).toNat) && decide ((s[i]'h).toNat ≤ 122) else true

theorem nameB_iff (s : ByteArray) : nameB s = true ↔ isName s := by
  unfold nameB isName azTo
  simp only [Bool.and_eq_true, decide_eq_true_eq, List.all_eq_true, List.mem_range]
  constructor
  · rintro ⟨⟨h1, h2⟩, h3⟩
    refine ⟨h1, h2, fun i hi h => ?_⟩
    have := h3 i hi
    rw [dif_pos h] at this
    simpa using this
  · rintro ⟨h1, h2, h3⟩
    refine ⟨⟨h1, h2⟩, fun i hi => ?_⟩
    rw [dif_pos hi]
    simpa using h3 i hi hi
theorem nameB_not (s : ByteArray) : nameB s = false ↔ ¬ isName s := by rw [← nameB_iff]; simp
theorem nameB_dec (s : ByteArray) : @decide (isName s) (Classical.propDecidable _) = nameB s := by
  rw [Bool.eq_iff_iff, nameB_iff]; simp

theorem specNameB (s : ByteArray) (w : World) (hs : s.size ≤ maxLen) :
    Calls Tryz.prog 83 #[.string s] w fun e w' => e = .returned (.bool (nameB s)) ∧ w' = w := by
  rw [← nameB_dec]; exact specName_any s w hs
theorem implNameB (s : ByteArray) (w : World) (hs : s.size ≤ maxLen) :
    Calls Tryz.prog 121 #[.string s] w fun e w' => e = .returned (.bool (nameB s)) ∧ w' = w := by
  rw [← nameB_dec]; exact implName_any s w hs

end Go.Proofs.YtkjnbjohicgooaaGreat
