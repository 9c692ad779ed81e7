/-
  The walk of the law FnExactTextNum: it returns true and writes nothing that was there.
-/
import Derived.Test.YtmikibekioekmakDoorTxtI
namespace Go.Proofs.YtmikibekioekmakDoor
open Go.RowKit
set_option linter.unusedVariables false

theorem num_one {s : ByteArray} {M N : Nat} (h1 : isNum s M) (h2 : isNum s N) : M = N := by
  have e := h1.2.symm.trans h2.2
  have e2 : (Lib.decDigits M).toArray = (Lib.decDigits N).toArray := congrArg ByteArray.data e
  have e3 : Lib.decDigits M = Lib.decDigits N := by simpa using e2
  rw [← dval_dec M, ← dval_dec N, e3]

theorem num_size {s : ByteArray} {N : Nat} (h : isNum s N) : 1 ≤ s.size ∧ s.size ≤ 10 := by
  have h1 := nDigits_le10 N h.1
  have h2 := Lib.nDigits_pos N
  have h3 : s.size = Lib.nDigits N := by
    rw [h.2]
    show (Lib.decDigits N).toArray.size = _
    rw [List.size_toArray, Lib.decDigits_length]
  omega

theorem specText_yes (s : ByteArray) (w : World) (N : Nat) (h : isNum s N) :
    Calls Tryd.prog 7 #[.string s] w fun e w' => e = .returned (.tuple #[.int .i64 (N : Int), .bool true]) ∧ Below w.heap.size w w' := by
  refine (specText_in s w (num_size h).1 (num_size h).2).mono ?_
  rintro e w' ⟨hb, ⟨M, hM, rfl⟩ | ⟨hno, _⟩⟩
  · rw [num_one hM h]; exact ⟨rfl, hb⟩
  · exact absurd h (hno N)

theorem specText_no (s : ByteArray) (w : World) (hn : s.size ≤ 1048576) (h : ∀ N, ¬ isNum s N) :
    Calls Tryd.prog 7 #[.string s] w fun e w' => e = .returned (.tuple #[.int .i64 0, .bool false]) ∧ Below w.heap.size w w' := by
  by_cases hl : s.size < 1 ∨ 10 < s.size
  · refine (specText_len s w hn hl).mono ?_
    rintro e w' ⟨rfl, rfl⟩
    exact ⟨rfl, Below.refl _ _⟩
  · refine (specText_in s w (by omega) (by omega)).mono ?_
    rintro e w' ⟨hb, ⟨M, hM, _⟩ | ⟨_, rfl⟩⟩
    · exact absurd hM (h M)
    · exact ⟨rfl, hb⟩

theorem implText_yes (s : ByteArray) (w : World) (N : Nat) (h : isNum s N) (hv : Vars w) :
    Calls Tryd.prog 8 #[.string s] w fun e w' => e = .returned (.tuple #[.int .i64 (N : Int), .bool true]) ∧ Below w.heap.size w w' := by
  have ha : Lib.atoiAll s.data.toList = .ok (N : Int) := by rw [h.2]; exact atoi_dec N (by have := h.1; omega)
  have hs := num_size h
  refine (implText_ok s w (by omega) hv N ha).mono ?_
  rintro e w' ⟨hb, ⟨M, hM, rfl⟩ | ⟨hno, _⟩⟩
  · rw [num_one hM h]; exact ⟨rfl, hb⟩
  · exact absurd h (hno N)

theorem implText_no (s : ByteArray) (w : World) (hn : s.size ≤ 1048576) (h : ∀ N, ¬ isNum s N) (hv : Vars w) :
    Calls Tryd.prog 8 #[.string s] w fun e w' => e = .returned (.tuple #[.int .i64 0, .bool false]) ∧ Below w.heap.size w w' := by
  by_cases ha : ∃ v, Lib.atoiAll s.data.toList = .ok v
  · obtain ⟨v, ha⟩ := ha
    refine (implText_ok s w hn hv v ha).mono ?_
    rintro e w' ⟨hb, ⟨M, hM, _⟩ | ⟨_, rfl⟩⟩
    · exact absurd hM (h M)
    · exact ⟨rfl, hb⟩
  · exact implText_bad s w hn hv (fun v hv' => ha ⟨v, hv'⟩)

set_option maxHeartbeats 400000 in
theorem textNum_law (s : ByteArray) (w : World) (hm : s.size ≤ maxLen) (hv : Vars w) :
    Calls Tryd.prog 4 #[.string s] w fun e w' => e = .returned (.bool true) ∧ Below w.heap.size w w' := by
  unfold maxLen at hm
  by_cases hn : s.size ≤ 1048576
  · have hlt : ¬ (1048576 : Int) < (s.size : Int) := by omega
    obtain ⟨v, c, hspec, himpl⟩ : ∃ (v : Int) (c : Bool), (∀ w', Calls Tryd.prog 7 #[.string s] w' fun e w1 => e = .returned (.tuple #[.int .i64 v, .bool c]) ∧ Below w'.heap.size w' w1) ∧
        (∀ w', Vars w' → Calls Tryd.prog 8 #[.string s] w' fun e w1 => e = .returned (.tuple #[.int .i64 v, .bool c]) ∧ Below w'.heap.size w' w1) := by
      by_cases h : ∃ N, isNum s N
      · obtain ⟨N, h⟩ := h
        exact ⟨N, true, fun w' => specText_yes s w' N h, fun w' hv' => implText_yes s w' N h hv'⟩
      · have h' : ∀ N, ¬ isNum s N := fun N hN => h ⟨N, hN⟩
        exact ⟨0, false, fun w' => specText_no s w' hn h', fun w' hv' => implText_no s w' hn h' hv'⟩
    have hvv : (v != v) = false := by simp
    have hcc : (c != c) = false := by simp
    have HV : Hid (Vars w) := hv
    clear hv
    go_enter Tryd.func4, Tryd.ntmps4
    go_wp2_with fail
    refine (hspec _).mono ?_
    rintro e w1 ⟨rfl, hb1⟩
    go_wp2_with fail
    refine (himpl _ (HV.out.later hb1)).mono ?_
    rintro e w2 ⟨rfl, hb2⟩
    go_wp2
    go_ret
    exact ⟨rfl, hb1.trans (hb2.mono hb1.size)⟩
  · have hlt : (1048576 : Int) < (s.size : Int) := by omega
    go_enter Tryd.func4, Tryd.ntmps4
    go_wp2
    go_ret
    exact ⟨rfl, Below.refl _ _⟩

end Go.Proofs.YtmikibekioekmakDoor
