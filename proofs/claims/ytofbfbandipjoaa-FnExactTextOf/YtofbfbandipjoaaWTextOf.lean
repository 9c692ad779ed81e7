/-
  The walk of the law FnExactTextOf: it returns true and writes nothing that was there.
-/
import Derived.Test.YtofbfbandipjoaaText
namespace Go.Proofs.Ytofbfbandipjoaa
open Go.RowKit
set_option linter.unusedVariables false

set_option maxHeartbeats 1000000 in
theorem textOf_law (a : Option Addr) (n cap : Nat) (zs : List Int) (w : World) (hl : zs.length = n) (hr : RdI w a zs) (hm : n ≤ maxLen) :
    Calls Try.prog 5 #[.slice a n cap] w fun e w' => e = .returned (.bool true) ∧ Below w.heap.size w w' := by
  have HL : Hid (zs.length = n) := hl
  clear hl
  unfold maxLen at hm
  by_cases hn : n ≤ 1048576
  · have hlt : ¬ (1048576 : Int) < (n : Int) := by omega
    obtain ⟨v, hv⟩ : ∃ v : ByteArray, v = strOfNums (txt zs n) := ⟨_, rfl⟩
    have HV : Hid (v = _) := hv
    clear hv
    go_enter Try.func5, Try.ntmps5
    go_wp2_with fail
    refine (toIntS_any a n cap zs _ HL hr hn).mono ?_
    rintro e w1 ⟨rfl, ho1, hb1⟩
    go_wp2_with fail
    refine (specText_any _ n _ zs _ HL (rdI_own HL.out ho1) (by omega)).mono ?_
    rintro e w1' ⟨rfl, hb1'⟩
    rw [← HV.out]
    have hb1'' := hb1.trans (hb1'.mono hb1.size)
    go_wp2_with fail
    refine (toIntS_any a n cap zs _ HL (hr.later hb1'') hn).mono ?_
    rintro e w2 ⟨rfl, ho2, hb2⟩
    have hb2' := hb1''.trans (hb2.mono hb1''.size)
    go_wp2_with fail
    refine (implText_any _ n _ zs _ HL (rdI_own HL.out ho2) (by omega)).mono ?_
    rintro e w3 ⟨rfl, hb3⟩
    rw [← HV.out]
    have hb3' := hb2'.trans (hb3.mono hb2'.size)
    have ho3 := own_later ho2 hb3
    go_wp2_with fail
    refine (toIntS_any a n cap zs _ HL (hr.later hb3') hn).mono ?_
    rintro e w4 ⟨rfl, ho4, hb4⟩
    have hb4' := hb3'.trans (hb4.mono hb3'.size)
    have ho4' := own_later ho3 hb4
    go_wp2_with fail
    refine (eqIntS_true _ _ n _ _ zs _ HL (rdI_own HL.out ho4') (rdI_own HL.out ho4) (by omega)).mono ?_
    rintro e w5 ⟨rfl, hb5⟩
    go_wp2
    go_ret
    exact ⟨rfl, hb4'.trans (hb5.mono hb4'.size)⟩
  · have hlt : (1048576 : Int) < (n : Int) := by omega
    go_enter Try.func5, Try.ntmps5
    go_wp2
    go_ret
    exact ⟨rfl, Below.refl _ _⟩

end Go.Proofs.Ytofbfbandipjoaa
