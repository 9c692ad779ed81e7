/-
  The walk of the law FnExactParts: it returns true and writes nothing that was there.
-/
import Derived.Test.YtmikibekioekmalDoorCutI
namespace Go.Proofs.YtmikibekioekmalDoor
open Go.RowKit
set_option linter.unusedVariables false

set_option maxHeartbeats 1000000 in
theorem parts_law (s : ByteArray) (w : World) (hm : s.size ≤ maxLen) (hv : MaxOk w) :
    Calls Tryd.prog 3 #[.string s] w fun e w' => e = .returned (.bool true) ∧ Below w.heap.size w w' := by
  unfold maxLen at hm
  by_cases hn : s.size ≤ 1048576
  · have hlt : ¬ (1048576 : Int) < (s.size : Int) := by omega
    obtain ⟨xs, n, hlen, HN, hspec, himpl⟩ : ∃ (xs : List ByteArray) (n : Nat), n ≤ 1048577 ∧ Hid (xs.length = n) ∧
        (∀ w', Calls Tryd.prog 5 #[.string s] w' fun e w1 => ∃ g cp : Nat, e = .returned (.slice (some ⟨g, 0, none⟩) n cp) ∧ w1.ownsRow w'.heap.size 9 1 (.slice (some ⟨g, 0, none⟩) n cp) n (xs.map Value.string) ∧ Below w'.heap.size w' w1) ∧
        (∀ w', MaxOk w' → Calls Tryd.prog 6 #[.string s] w' fun e w1 => ∃ g cp : Nat, e = .returned (.slice (some ⟨g, 0, none⟩) n cp) ∧ w1.ownsRow w'.heap.size 9 1 (.slice (some ⟨g, 0, none⟩) n cp) n (xs.map Value.string) ∧ Below w'.heap.size w' w1) :=
      ⟨pcsB 32 s, (pcsB 32 s).length, by have := pcsB_len 32 s; omega, rfl, fun w' => specParts_any s w' hn, fun w' hw => implParts_any s w' hn hw⟩
    have HV : Hid (MaxOk w) := hv
    clear hv
    go_enter Tryd.func3, Tryd.ntmps3
    go_wp2_with fail
    refine (hspec _).mono ?_
    rintro e w1 ⟨gW, cW, rfl, hv1, hb1⟩
    have hW := hv1.lt gW rfl
    go_wp2_with fail
    refine (himpl _ (HV.out.later hb1)).mono ?_
    rintro e w2 ⟨gG, cG, rfl, hu2, hb2⟩
    have hG := hu2.lt gG rfl
    have hb2' := hb1.trans (hb2.mono hb1.size)
    have hv2 := own_later hv1 hb2
    go_wp2_with fail
    refine (eqStringS_same _ _ n _ _ xs _ HN (rdS_own HN.out hu2) (rdS_own HN.out hv2) (by omega)).mono ?_
    rintro e w3 ⟨rfl, hb3⟩
    have hb3' := hb2'.trans (hb3.mono hb2'.size)
    have hv3 := own_later hv2 hb3
    have hu3 := own_later hu2 hb3
    go_wp2_with fail
    refine (markStringS_any _ n _ _ xs _ HN (by omega) hu3).mono ?_
    rintro e w4 ⟨rfl, hu4, hg4⟩
    have hs1 := hb1.size
    have hb4 : Below w.heap.size w w4 := hb3'.grown hg4 hb3'.size (fun k h => by cases h; omega)
    have hv4 := hv3.kept hg4 (.inr (by simp [Value.ownBlock]; omega))
    clear hu2 hu3 hv1 hv2 hv3 hg4 hb3 hb3' hb2 hb2'
    go_wp2_with fail
    refine (heldStringS_marked _ n _ _ xs _ HN (by omega) hu4).mono ?_
    rintro e w5 ⟨rfl, hb5⟩
    have hb5' := hb4.trans (hb5.mono hb4.size)
    have hv5 := own_later hv4 hb5
    have hu5 := own_later hu4 hb5
    go_wp2_with fail
    refine (himpl _ (HV.out.later hb5')).mono ?_
    rintro e w6 ⟨gT, cT, rfl, ht6, hb6⟩
    have hb6' := hb5'.trans (hb6.mono hb5'.size)
    have hv6 := own_later hv5 hb6
    have hu6 := own_later hu5 hb6
    go_wp2_with fail
    refine (eqStringS_same _ _ n _ _ xs _ HN (rdS_own HN.out ht6) (rdS_own HN.out hv6) (by omega)).mono ?_
    rintro e w7 ⟨rfl, hb7⟩
    have hb7' := hb6'.trans (hb7.mono hb6'.size)
    have hu7 := own_later hu6 hb7
    go_wp2_with fail
    refine (heldStringS_marked _ n _ _ xs _ HN (by omega) hu7).mono ?_
    rintro e w8 ⟨rfl, hb8⟩
    go_wp2
    go_ret
    exact ⟨rfl, hb7'.trans (hb8.mono hb7'.size)⟩
  · have hlt : (1048576 : Int) < (s.size : Int) := by omega
    go_enter Tryd.func3, Tryd.ntmps3
    go_wp2
    go_ret
    exact ⟨rfl, Below.refl _ _⟩

end Go.Proofs.YtmikibekioekmalDoor
