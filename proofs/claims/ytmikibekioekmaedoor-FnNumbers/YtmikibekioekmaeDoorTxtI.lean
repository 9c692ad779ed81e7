/-
  TextNum, the program's.
-/
import Derived.Test.YtmikibekioekmaeDoorTxtS
import Derived.Test.YtmikibekioekmaeDoorWNumText
namespace Go.Proofs.YtmikibekioekmaeDoor
open Go.RowKit
set_option linter.unusedVariables false

/-- What the walk wants of the library's variables: two sentinels and a table. -/
def Vars (w : World) : Prop := (∃ tp p, w.var? Tryd.prog "strconv.ErrSyntax" = some #[.iface tp p]) ∧ (∃ tp p, w.var? Tryd.prog "strconv.ErrRange" = some #[.iface tp p]) ∧ Lib.TabIs Tryd.prog w "internal/strconv.uint64pow10" .u64 Lib.pow10Tab

theorem gSyn : Tryd.prog.globalNamed "strconv.ErrSyntax" = some 0 := by kernel_rfl
theorem gRng : Tryd.prog.globalNamed "strconv.ErrRange" = some 1 := by kernel_rfl

theorem var_lt {w : World} {n : String} {g : Nat} {c : Value} (hg : Tryd.prog.globalNamed n = some g) (hv : w.var? Tryd.prog n = some #[c]) : g < w.heap.size := by
  have h0 := World.var?_cell hg hv 0
  exact World.block_lt_of_cell? w ⟨g, 0, none⟩ (u := c) (by simpa using h0)

theorem Vars.later {w w' : World} (h : Vars w) (hb : Below w.heap.size w w') : Vars w' := by
  obtain ⟨⟨t1, p1, h1⟩, ⟨t2, p2, h2⟩, h3⟩ := h
  exact ⟨⟨t1, p1, var?_below hb gSyn (var_lt gSyn h1) h1⟩, ⟨t2, p2, var?_below hb gRng (var_lt gRng h2) h2⟩, Joins.tab_stays gPow h3 hb (Nat.le_refl _)⟩

theorem atoi_ok_all (s : ByteArray) (hn : s.size ≤ 1048576) (v : Int) (h : Lib.atoiAll s.data.toList = .ok v) (w : World) :
    Calls Tryd.prog 18 #[.string s] w fun e w' => e = .returned (.tuple #[.int .i64 v, .nilIface]) ∧ Below w.heap.size w w' := by
  refine (Tryd.strconv_Atoi_ok s (by omega) v h w).mono ?_
  rintro e w' ⟨rfl, rfl | ⟨t, rfl⟩⟩
  · exact ⟨rfl, Below.refl _ _⟩
  · exact ⟨rfl, Lib.bytesWorld_below _ _ _⟩

set_option maxHeartbeats 1000000 in
theorem implText_bad (s : ByteArray) (w : World) (hn : s.size ≤ 1048576) (hv : Vars w) (h : ∀ v, Lib.atoiAll s.data.toList ≠ .ok v) :
    Calls Tryd.prog 8 #[.string s] w fun e w' => e = .returned (.tuple #[.int .i64 0, .bool false]) ∧ Below w.heap.size w w' := by
  obtain ⟨⟨t1, p1, h1⟩, ⟨t2, p2, h2⟩, h3⟩ := hv
  have key : ∃ x : Int, Calls Tryd.prog 18 #[.string s] w fun e w' => ∃ N, e = .returned (.tuple #[.int .i64 x, .iface 60 (.pointer (some ⟨N, 0, none⟩))]) ∧ Below w.heap.size w w' := by
    rcases hc : Lib.atoiAll s.data.toList with v | _ | _
    · exact absurd hc (h v)
    · refine ⟨0, Calls.mono (show Calls Tryd.prog 18 #[.string s] w (fun e w' => ∃ N, e = .returned (.tuple #[.int .i64 0, .iface 60 (.pointer (some ⟨N, 0, none⟩))]) ∧ w.heap.size ≤ N ∧ w'.heap[N]? = some (.cells #[.string ⟨#[65, 116, 111, 105]⟩, .string s, .iface t1 p1] _ (0, 0)) ∧ Below w.heap.size w w') from Any.strconv_Atoi_syntax_var Tryd.laysC172 s (by omega) hc t1 p1 w h1) ?_⟩
      rintro e w' ⟨N, rfl, _, _, hb⟩
      exact ⟨N, rfl, hb⟩
    · refine ⟨Lib.atoiSat s.data.toList, (Tryd.strconv_Atoi_range_var s (by omega) hc t2 p2 w h2).mono ?_⟩
      rintro e w' ⟨N, rfl, _, _, hb⟩
      exact ⟨N, rfl, hb⟩
  obtain ⟨x, key⟩ := key
  have HK : Hid (Calls Tryd.prog 18 #[.string s] w fun e w' => ∃ N, e = .returned (.tuple #[.int .i64 x, .iface 60 (.pointer (some ⟨N, 0, none⟩))]) ∧ Below w.heap.size w w') := key
  clear key h h1 h2 h3
  go_enter Tryd.func8, Tryd.ntmps8
  go_wp2_with fail
  refine HK.out.mono ?_
  rintro e w1 ⟨N, rfl, hb1⟩
  go_wp2
  go_ret2
  exact ⟨rfl, hb1⟩

theorem fulls {s : ByteArray} {v : Int} (h : Lib.atoiAll s.data.toList = .ok v) : s.toList.isEmpty = false := by
  rw [ByteArray.toList_eq]
  cases hs : s.data.toList with
  | nil => rw [hs] at h; simp [Lib.atoiAll] at h
  | cons => rfl

set_option maxHeartbeats 1000000 in
theorem implText_ok (s : ByteArray) (w : World) (hn : s.size ≤ 1048576) (hv : Vars w) (v : Int) (h : Lib.atoiAll s.data.toList = .ok v) :
    Calls Tryd.prog 8 #[.string s] w fun e w' => Below w.heap.size w w' ∧
      ((∃ N, isNum s N ∧ e = .returned (.tuple #[.int .i64 (N : Int), .bool true])) ∨ ((∀ N, ¬ isNum s N) ∧ e = .returned (.tuple #[.int .i64 0, .bool false]))) := by
  have hfull := fulls h
  have hval : Hid (∀ N, isNum s N → v = N) := by
    intro N hN
    have := atoi_dec N (by have := hN.1; omega)
    rw [hN.2] at h
    have e := h.symm.trans this
    injection e
  have HA : Hid (Lib.atoiAll s.data.toList = .ok v) := h
  have HV : Hid (Vars w) := hv
  clear h hv
  by_cases hr : v < 0 ∨ 4294967295 < v
  · have HR : Hid (v < 0 ∨ 4294967295 < v) := hr
    have hno : Hid (∀ N, ¬ isNum s N) := by
      intro N hN
      have := hval.out N hN
      have := hN.1
      omega
    clear hr
    go_enter Tryd.func8, Tryd.ntmps8
    go_wp2_with fail
    refine (atoi_ok_all s hn v HA.out _).mono ?_
    rintro e w1 ⟨rfl, hb1⟩
    go_wp2_with fail
    refine (implNum_no v HR.out _).mono ?_
    rintro e w2 ⟨rfl, rfl⟩
    go_wp2
    go_ret2
    exact ⟨hb1, .inr ⟨hno.out, rfl⟩⟩
  · obtain ⟨V, rfl⟩ := Int.eq_ofNat_of_zero_le (show 0 ≤ v by omega)
    have hV : V ≤ 4294967295 := by omega
    clear hr
    by_cases heq : (⟨(Lib.decDigits V).toArray⟩ : ByteArray) = s
    · have HE : Hid (⟨(Lib.decDigits V).toArray⟩ = s) := heq
      clear heq
      go_enter Tryd.func8, Tryd.ntmps8
      go_wp2_with fail
      refine (atoi_ok_all s hn V HA.out _).mono ?_
      rintro e w1 ⟨rfl, hb1⟩
      go_wp2_with fail
      refine (implNum_yes V hV _ (HV.out.later hb1).2.2).mono ?_
      rintro e w2 ⟨rfl, hb2⟩
      rw [HE.out]
      go_wp2
      go_ret2
      exact ⟨hb1.trans (hb2.mono hb1.size), .inl ⟨V, ⟨hV, HE.out.symm⟩, rfl⟩⟩
    · have hno : Hid (∀ N, ¬ isNum s N) := by
        intro N hN
        have := hval.out N hN
        obtain rfl : V = N := by omega
        exact heq hN.2.symm
      obtain ⟨t, ht⟩ : ∃ t : ByteArray, t = ⟨(Lib.decDigits V).toArray⟩ := ⟨_, rfl⟩
      rw [← ht] at heq
      have HT : Hid (t = _) := ht
      have hne := neq_of heq
      clear ht heq
      go_enter Tryd.func8, Tryd.ntmps8
      go_wp2_with fail
      refine (atoi_ok_all s hn V HA.out _).mono ?_
      rintro e w1 ⟨rfl, hb1⟩
      go_wp2_with fail
      refine (implNum_yes V hV _ (HV.out.later hb1).2.2).mono ?_
      rintro e w2 ⟨rfl, hb2⟩
      rw [← HT.out]
      go_wp2
      go_ret2
      exact ⟨hb1.trans (hb2.mono hb1.size), .inr ⟨hno.out, rfl⟩⟩

end Go.Proofs.YtmikibekioekmaeDoor
