/-
  TextNum, the model's: a numeral of a number up to 4294967295, as NumText writes it, gives that number; every other text gives no.
-/
import Derived.Test.YtmikibekioekmakDoorTxt
import Derived.Test.YtmikibekioekmakDoorNum
namespace Go.Proofs.YtmikibekioekmakDoor
open Go.RowKit
set_option linter.unusedVariables false

/-- s is the numeral of N. -/
def isNum (s : ByteArray) (N : Nat) : Prop := N ≤ 4294967295 ∧ s = ⟨(Lib.decDigits N).toArray⟩

theorem take_snoc (s : ByteArray) (k : Nat) (h : k < s.size) : s.data.toList.take (k + 1) = s.data.toList.take k ++ [s[k]] := by
  rw [List.take_succ_eq_append_getElem (by simpa using h)]; rfl

theorem neq_of {a b : ByteArray} (h : ¬ a = b) : (a.toList == b.toList) = false := by
  rw [beq_eq_false_iff_ne]
  intro e
  apply h
  rw [ByteArray.toList_eq, ByteArray.toList_eq] at e
  exact ByteArray.ext (Array.toList_inj.1 e)

theorem full_of {s : ByteArray} (h : 1 ≤ s.size) : s.toList.isEmpty = false := by
  rw [ByteArray.toList_eq]
  cases hs : s.data.toList with
  | nil => have : s.data.toList.length = s.size := by simp
           rw [hs] at this; simp at this; omega
  | cons => rfl

set_option maxHeartbeats 400000 in
theorem specText_len (s : ByteArray) (w : World) (hn : s.size ≤ 1048576) (h : s.size < 1 ∨ 10 < s.size) :
    Calls Tryd.prog 7 #[.string s] w fun e w' => e = .returned (.tuple #[.int .i64 0, .bool false]) ∧ w' = w := by
  by_cases h1 : s.size < 1
  · have h1' : (s.size : Int) < 1 := by omega
    go_enter Tryd.func7, Tryd.ntmps7
    go_wp2
    go_ret2
    exact ⟨rfl, rfl⟩
  · have h1' : ¬ (s.size : Int) < 1 := by omega
    have h2' : 10 < (s.size : Int) := by omega
    go_enter Tryd.func7, Tryd.ntmps7
    go_wp2
    go_ret2
    exact ⟨rfl, rfl⟩

set_option maxRecDepth 100000 in
set_option maxHeartbeats 1000000 in
theorem specText_in (s : ByteArray) (w : World) (h1 : 1 ≤ s.size) (h10 : s.size ≤ 10) :
    Calls Tryd.prog 7 #[.string s] w fun e w' => Below w.heap.size w w' ∧
      ((∃ N, isNum s N ∧ e = .returned (.tuple #[.int .i64 (N : Int), .bool true])) ∨ ((∀ N, ¬ isNum s N) ∧ e = .returned (.tuple #[.int .i64 0, .bool false]))) := by
  have h1' : ¬ (s.size : Int) < 1 := by omega
  have h2' : ¬ 10 < (s.size : Int) := by omega
  go_enter Tryd.func7, Tryd.ntmps7
  go_wp2
  go_loop [4, 5] (fun n i => ∃ k : Nat, k ≤ s.size ∧ Hid (∀ c ∈ s.data.toList.take k, isDig c) ∧ n = .int .i64 (dval (s.data.toList.take k) : Int) ∧ i = .int .i64 k) (fun _ i => s.size - (intOf i).toNat)
  case atStart => exact ⟨0, Nat.zero_le _, fun c hc => by simp at hc, rfl, rfl⟩
  case round =>
    obtain ⟨k, hk, hdig, rfl, rfl⟩ := hrel
    by_cases hlt : k < s.size
    · have hlt' : (k : Int) < (s.size : Int) := by omega
      have hv : dval (s.data.toList.take k) < 1000000000 := by
        have := dval_lt _ hdig.out
        have hl : (s.data.toList.take k).length ≤ 9 := by rw [List.length_take]; omega
        have : 10 ^ (s.data.toList.take k).length ≤ 10 ^ 9 := Nat.pow_le_pow_right (by decide) hl
        omega
      have hsn : Hid (dval (s.data.toList.take (k + 1)) = dval (s.data.toList.take k) * 10 + (s[k].toNat - 48)) := by
        show dval _ = _
        rw [take_snoc s k hlt, dval_snoc]
      obtain ⟨V, hV⟩ : ∃ V, V = dval (s.data.toList.take k) := ⟨_, rfl⟩
      rw [← hV] at hv hsn ⊢
      clear hV
      by_cases hd : isDig s[k]
      · have hd' := hd
        unfold isDig at hd'
        have hd1 : ¬ ((s[k].toNat : Int) < 48) := by omega
        have hd2 : ¬ (57 < (s[k].toNat : Int)) := by omega
        have HD : Hid (isDig s[k]) := hd
        clear hd
        go_wp2
        go_round
        case rel =>
          refine ⟨k + 1, by omega, ?_, ?_, by go_num⟩
          · intro c hc
            rw [take_snoc s k hlt, List.mem_append] at hc
            rcases hc with hc | hc
            · exact hdig.out c hc
            · rw [List.mem_singleton] at hc; subst hc; exact HD.out
          · rw [hsn.out]; go_num
        case measure => simp [intOf]; omega
      · have HD : Hid (¬ isDig s[k]) := hd
        have hno : Hid (∀ N, ¬ isNum s N) := by
          intro N hN
          apply hd
          apply dec_digs N
          rw [← show s.data.toList = Lib.decDigits N by rw [hN.2]]
          exact List.getElem_mem (by simpa using hlt)
        by_cases hlow : (s[k].toNat : Int) < 48
        · clear hd
          go_wp2
          go_ret2
          exact ⟨Below.refl _ _, .inr ⟨hno.out, rfl⟩⟩
        · have hhi : 57 < (s[k].toNat : Int) := by unfold isDig at hd; omega
          clear hd
          go_wp2
          go_ret2
          exact ⟨Below.refl _ _, .inr ⟨hno.out, rfl⟩⟩
    · have e : k = s.size := by omega
      subst e
      have etake : s.data.toList.take s.size = s.data.toList := List.take_of_length_le (by simp)
      rw [etake] at hdig ⊢
      have hv : dval s.data.toList < 10000000000 := by
        have := dval_lt _ hdig.out
        have hl : s.data.toList.length ≤ 10 := by simpa using h10
        have : 10 ^ s.data.toList.length ≤ 10 ^ 10 := Nat.pow_le_pow_right (by decide) hl
        omega
      have hval : Hid (∀ N, isNum s N → dval s.data.toList = N) := by
        intro N hN
        rw [hN.2]
        exact dval_dec N
      obtain ⟨V, hV⟩ : ∃ V, V = dval s.data.toList := ⟨_, rfl⟩
      rw [← hV] at hv hval ⊢
      clear hV etake
      by_cases hmax : V ≤ 4294967295
      · by_cases heq : (⟨(Lib.decDigits V).toArray⟩ : ByteArray) = s
        · have HE : Hid (⟨(Lib.decDigits V).toArray⟩ = s) := heq
          clear heq
          go_wp2_with fail
          refine (specNum_yes V hmax _).mono ?_
          rintro e w1 ⟨rfl, hb1⟩
          rw [HE.out]
          go_wp2
          go_ret2
          exact ⟨hb1, .inl ⟨V, ⟨hmax, HE.out.symm⟩, rfl⟩⟩
        · have hno : Hid (∀ N, ¬ isNum s N) := by
            intro N hN
            have := hval.out N hN
            subst this
            exact heq hN.2.symm
          obtain ⟨t, ht⟩ : ∃ t : ByteArray, t = ⟨(Lib.decDigits V).toArray⟩ := ⟨_, rfl⟩
          rw [← ht] at heq
          have HT : Hid (t = _) := ht
          have hne := neq_of heq
          clear ht heq
          go_wp2_with fail
          refine (specNum_yes V hmax _).mono ?_
          rintro e w1 ⟨rfl, hb1⟩
          rw [← HT.out]
          go_wp2
          go_ret2
          exact ⟨hb1, .inr ⟨hno.out, rfl⟩⟩
      · have hfull := full_of h1
        have hno : Hid (∀ N, ¬ isNum s N) := by
          intro N hN
          have := hval.out N hN
          have := hN.1
          omega
        go_wp2_with fail
        refine (specNum_no V (by omega) _).mono ?_
        rintro e w1 ⟨rfl, rfl⟩
        go_wp2
        go_ret2
        exact ⟨Below.refl _ _, .inr ⟨hno.out, rfl⟩⟩

end Go.Proofs.YtmikibekioekmakDoor
