/-
  The walk of the law FnExactTextNum: it returns true and writes nothing that was there.
-/
import Derived.Test.YtmikibekioekmaeDoorTxtI
namespace Go.Proofs.YtmikibekioekmaeDoor
open Go.RowKit
set_option linter.unusedVariables false

theorem num_one {s : ByteArray} {M N : Nat} (h1 : isNum s M) (h2 : isNum s N) : M = N := by
  have e := h1.2.symm.trans h2.2
  have e2 : (Lib.decDigits M).toArray = (Lib.decDigits N).toArray := congrArg ByteArray.data e
  have e3 : Lib.decDigits M = Lib.decDigits N := by simpa using e2
  rw [← dval_dec M, ← dval_dec N, e3]

theorem num_size {s : ByteArray} {N : Nat} (h : isNum s N) : 1 ≤ s.size ∧ s.size ≤ 10 := by
  have h1 := nDigits_le10 N h.1
  have h2 := Lib.nDigits_pos N
  have h3 : s.size = Lib.nDigits N := by
    rw [h.2]
    show (Lib.decDigits N).toArray.size = _
    rw [List.size_toArray, Lib.decDigits_length]
  omega

theorem implText_yes (s : ByteArray) (w : World) (N : Nat) (h : isNum s N) (hv : Vars w) :
    Calls Tryd.prog 8 #[.string s] w fun e w' => e = .returned (.tuple #[.int .i64 (N : Int), .bool true]) ∧ Below w.heap.size w w' := by
  have ha : Lib.atoiAll s.data.toList = .ok (N : Int) := by rw [h.2]; exact atoi_dec N (by have := h.1; omega)
  have hs := num_size h
  refine (implText_ok s w (by omega) hv N ha).mono ?_
  rintro e w' ⟨hb, ⟨M, hM, rfl⟩ | ⟨hno, _⟩⟩
  · rw [num_one hM h]; exact ⟨rfl, hb⟩
  · exact absurd h (hno N)

theorem implText_no (s : ByteArray) (w : World) (hn : s.size ≤ 1048576) (h : ∀ N, ¬ isNum s N) (hv : Vars w) :
    Calls Tryd.prog 8 #[.string s] w fun e w' => e = .returned (.tuple #[.int .i64 0, .bool false]) ∧ Below w.heap.size w w' := by
  by_cases ha : ∃ v, Lib.atoiAll s.data.toList = .ok v
  · obtain ⟨v, ha⟩ := ha
    refine (implText_ok s w hn hv v ha).mono ?_
    rintro e w' ⟨hb, ⟨M, hM, _⟩ | ⟨_, rfl⟩⟩
    · exact absurd hM (h M)
    · exact ⟨rfl, hb⟩
  · exact implText_bad s w hn hv (fun v hv' => ha ⟨v, hv'⟩)

end Go.Proofs.YtmikibekioekmaeDoor
