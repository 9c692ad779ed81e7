/-
  The walk of the law FnExactRuneRead: it returns true and writes nothing that was there.
-/
import Derived.Test.YtofbfbandipjoaaDoorTabs
namespace Go.Proofs.YtofbfbandipjoaaDoor
open Go.RowKit
set_option linter.unusedVariables false

set_option maxHeartbeats 1000000 in
theorem runeRead_law (a : Option Addr) (n cap : Nat) (zs : List Int) (at' : Int) (w : World) (hT : Tabs w) (hl : zs.length = n) (hr : Rd w a zs) (hm : n ≤ maxLen) :
    Calls Tryd.prog 4 #[.slice a n cap, .int .i64 at'] w fun e w' => e = .returned (.bool true) ∧ Below w.heap.size w w' := by
  have HL : Hid (zs.length = n) := hl
  clear hl
  unfold maxLen at hm
  by_cases hn : n ≤ 1048576
  · have hlt : ¬ (1048576 : Int) < (n : Int) := by omega
    have hcm : n ≤ maxLen := by unfold maxLen; omega
    obtain ⟨v1, hv1⟩ : ∃ v : Int, v = (rra zs at').1 := ⟨_, rfl⟩
    obtain ⟨v2, hv2⟩ : ∃ v : Int, v = (rra zs at').2 := ⟨_, rfl⟩
    have HV : Hid (v1 = _ ∧ v2 = _) := ⟨hv1, hv2⟩
    clear hv1 hv2
    have hne1 : (v1 != v1) = false := by simp
    have hne2 : (v2 != v2) = false := by simp
    go_enter Tryd.func4, Tryd.ntmps4
    go_wp2_with fail
    refine (toByteS_any a n cap zs _ HL hr hn).mono ?_
    rintro e w1 ⟨rfl, ho1, hb1⟩
    go_wp2_with fail
    refine (specRrd_any _ n n zs at' _ HL.out (rd_own HL.out hr.1 ho1) (by omega) (Nat.le_refl _) hcm).mono ?_
    rintro e w1' ⟨rfl, hb1'⟩
    rw [← HV.out.1, ← HV.out.2]
    have hb1'' := hb1.trans (hb1'.mono hb1.size)
    go_wp2_with fail
    refine (toByteS_any a n cap zs _ HL (hr.later hb1'') hn).mono ?_
    rintro e w2 ⟨rfl, ho2, hb2⟩
    have hb2' := hb1''.trans (hb2.mono hb1''.size)
    go_wp2_with fail
    refine (implRrd_any _ n n zs at' _ (hT.later hb2') HL.out (rd_own HL.out hr.1 ho2) (by omega) (Nat.le_refl _) hcm).mono ?_
    rintro e w3 ⟨rfl, hb3⟩
    rw [← HV.out.1, ← HV.out.2]
    have hb3' := hb2'.trans (hb3.mono hb2'.size)
    have ho3 := own_later ho2 hb3
    go_wp2_with fail
    refine (toByteS_any a n cap zs _ HL (hr.later hb3') hn).mono ?_
    rintro e w4 ⟨rfl, ho4, hb4⟩
    have hb4' := hb3'.trans (hb4.mono hb3'.size)
    have ho4' := own_later ho3 hb4
    go_wp2_with fail
    refine (eqByteS_true _ _ n _ _ zs _ HL (rd_own HL.out hr.1 ho4') (rd_own HL.out hr.1 ho4) (by omega)).mono ?_
    rintro e w5 ⟨rfl, hb5⟩
    go_wp2
    go_ret
    exact ⟨rfl, hb4'.trans (hb5.mono hb4'.size)⟩
  · have hlt : (1048576 : Int) < (n : Int) := by omega
    go_enter Tryd.func4, Tryd.ntmps4
    go_wp2
    go_ret
    exact ⟨rfl, Below.refl _ _⟩

end Go.Proofs.YtofbfbandipjoaaDoor
