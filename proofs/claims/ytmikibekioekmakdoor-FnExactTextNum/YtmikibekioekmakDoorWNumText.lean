/-
  The walk of the law FnExactNumText: it returns true and writes nothing that was there.
-/
import Derived.Test.YtmikibekioekmakDoorNum
import Derived.Lib.SmallJoins
namespace Go.Proofs.YtmikibekioekmakDoor
open Go.RowKit
set_option linter.unusedVariables false

theorem gPow : Tryd.prog.globalNamed "internal/strconv.uint64pow10" = some 2 := by kernel_rfl

set_option maxHeartbeats 400000 in
theorem numText_law (n : Int) (w : World) (hn : -9223372036854775808 ≤ n ∧ n ≤ 9223372036854775807) (htab : Lib.TabIs Tryd.prog w "internal/strconv.uint64pow10" .u64 Lib.pow10Tab) :
    Calls Tryd.prog 3 #[.int .i64 n] w fun e w' => e = .returned (.bool true) ∧ Below w.heap.size w w' := by
  have HT : Hid (Lib.TabIs Tryd.prog w "internal/strconv.uint64pow10" .u64 Lib.pow10Tab) := htab
  clear htab
  by_cases h : n < 0 ∨ 4294967295 < n
  · have HN : Hid (n < 0 ∨ 4294967295 < n) := h
    clear h
    go_enter Tryd.func3, Tryd.ntmps3
    go_wp2_with fail
    refine (specNum_no n HN.out _).mono ?_
    rintro e w1 ⟨rfl, rfl⟩
    go_wp2_with fail
    refine (implNum_no n HN.out _).mono ?_
    rintro e w2 ⟨rfl, rfl⟩
    go_wp2
    go_ret
    exact ⟨rfl, Below.refl _ _⟩
  · obtain ⟨N, rfl⟩ := Int.eq_ofNat_of_zero_le (show 0 ≤ n by omega)
    have hN : N ≤ 4294967295 := by omega
    obtain ⟨s, hs⟩ : ∃ s : ByteArray, s = ⟨(Lib.decDigits N).toArray⟩ := ⟨_, rfl⟩
    have HS : Hid (s = _) := hs
    clear h hs
    go_enter Tryd.func3, Tryd.ntmps3
    go_wp2_with fail
    refine (specNum_yes N hN _).mono ?_
    rintro e w1 ⟨rfl, hb1⟩
    rw [← HS.out]
    go_wp2_with fail
    refine (implNum_yes N hN _ (Joins.tab_stays gPow HT.out hb1 (Nat.le_refl _))).mono ?_
    rintro e w2 ⟨rfl, hb2⟩
    rw [← HS.out]
    go_wp2
    go_ret
    exact ⟨rfl, hb1.trans (hb2.mono hb1.size)⟩

end Go.Proofs.YtmikibekioekmakDoor
