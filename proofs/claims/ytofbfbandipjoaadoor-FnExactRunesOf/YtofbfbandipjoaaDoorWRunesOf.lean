/-
  The walk of the law FnExactRunesOf: it returns true and writes nothing that was there.
-/
import Derived.Test.YtofbfbandipjoaaDoorRofI
namespace Go.Proofs.YtofbfbandipjoaaDoor
open Go.RowKit
set_option linter.unusedVariables false

theorem specRof_nil (s : ByteArray) (w : World) (hn : s.size ≤ 1048576) (h : ¬ rofOk s) :
    Calls Tryd.prog 19 #[.string s] w fun e w' => e = .returned (.tuple #[.slice none 0 0, .bool false]) ∧ Below w.heap.size w w' := by
  by_cases h1 : s.size ≤ 65536
  · refine (specRof_in s w h1).mono ?_
    rintro e w' ⟨hb, ⟨_, rfl⟩ | ⟨hv, _⟩⟩
    · exact ⟨rfl, hb⟩
    · exact absurd ⟨h1, hv⟩ h
  · have hlt : (65536 : Int) < (s.size : Int) := by omega
    go_enter Tryd.func19, Tryd.ntmps19
    go_wp2
    go_ret2
    exact ⟨rfl, Below.refl _ _⟩

theorem specRof_yes (s : ByteArray) (w : World) (h : rofOk s) :
    Calls Tryd.prog 19 #[.string s] w fun e w' => ∃ g c, e = .returned (.tuple #[.slice (some ⟨g, 0, none⟩) (runes s).length c, .bool true]) ∧
      w'.ownsRow w.heap.size 3 1 (.slice (some ⟨g, 0, none⟩) (runes s).length c) (runes s).length ((runes s).map (Value.int .i64)) ∧ Below w.heap.size w w' := by
  refine (specRof_in s w h.1).mono ?_
  rintro e w' ⟨hb, ⟨hv, _⟩ | ⟨_, g, c, rfl, ho⟩⟩
  · rw [h.2] at hv; cases hv
  · exact ⟨g, c, rfl, ho, hb⟩

set_option maxHeartbeats 1000000 in
theorem runesOf_law_no (s : ByteArray) (w : World) (hT : Tabs w) (hn : s.size ≤ 1048576) (hu : ¬ rofOk s) :
    Calls Tryd.prog 5 #[.string s] w fun e w' => e = .returned (.bool true) ∧ Below w.heap.size w w' := by
  have hlt : ¬ (1048576 : Int) < (s.size : Int) := by omega
  have hm : s.size ≤ maxLen := by unfold maxLen; omega
  have HU : Hid (¬ rofOk s) := hu
  clear hu
  have hnil : Hid (([] : List Int).length = 0) := rfl
  go_enter Tryd.func5, Tryd.ntmps5
  go_wp2_with fail
  refine (specRof_nil s _ (by omega) HU.out).mono ?_
  rintro e w1 ⟨rfl, hb1⟩
  go_wp2_with fail
  refine (implRof_no s _ hm (hT.later hb1) HU.out).mono ?_
  rintro e w2 ⟨rfl, hb2⟩
  have hb2' := hb1.trans (hb2.mono hb1.size)
  go_wp2_with fail
  refine (eqIntS_true _ _ 0 _ _ [] _ hnil (.inl rfl) (.inl rfl) (by omega)).mono ?_
  rintro e w3 ⟨rfl, hb3⟩
  have hb3' := hb2'.trans (hb3.mono hb2'.size)
  go_wp2_with fail
  refine (markIntS_none _ _ _).mono ?_
  rintro e w3' ⟨rfl, rfl⟩
  go_wp2_with fail
  refine (heldIntS_none _ _ _).mono ?_
  rintro e w3' ⟨rfl, rfl⟩
  go_wp2_with fail
  refine (implRof_no s _ hm (hT.later hb3') HU.out).mono ?_
  rintro e w4 ⟨rfl, hb4⟩
  have hb4' := hb3'.trans (hb4.mono hb3'.size)
  go_wp2_with fail
  refine (eqIntS_true _ _ 0 _ _ [] _ hnil (.inl rfl) (.inl rfl) (by omega)).mono ?_
  rintro e w5 ⟨rfl, hb5⟩
  have hb5' := hb4'.trans (hb5.mono hb4'.size)
  go_wp2_with fail
  refine (heldIntS_none _ _ _).mono ?_
  rintro e w5' ⟨rfl, rfl⟩
  go_wp2
  go_ret
  exact ⟨rfl, hb5'⟩

set_option maxHeartbeats 1000000 in
theorem runesOf_law_yes (s : ByteArray) (w : World) (hT : Tabs w) (hu : rofOk s) :
    Calls Tryd.prog 5 #[.string s] w fun e w' => e = .returned (.bool true) ∧ Below w.heap.size w w' := by
  have hle := hu.1
  have hlt : ¬ (1048576 : Int) < (s.size : Int) := by omega
  obtain ⟨n, hn⟩ : ∃ n, n = (runes s).length := ⟨_, rfl⟩
  have hnle : n ≤ 65536 := by rw [hn]; exact Nat.le_trans (rn_len s s.size 0) hle
  obtain ⟨ys, hys⟩ : ∃ ys, ys = runes s := ⟨_, rfl⟩
  have hyl : Hid (ys.length = n) := by show ys.length = _; rw [hys, hn]
  have hspec : ∀ w', Calls Tryd.prog 19 #[.string s] w' fun e w1 => ∃ g c, e = .returned (.tuple #[.slice (some ⟨g, 0, none⟩) n c, .bool true]) ∧
      w1.ownsRow w'.heap.size 3 1 (.slice (some ⟨g, 0, none⟩) n c) n (ys.map (Value.int .i64)) ∧ Below w'.heap.size w' w1 := by
    intro w'; rw [hys, hn]; exact specRof_yes s w' hu
  have himpl : ∀ w', Tabs w' → Calls Tryd.prog 8 #[.string s] w' fun e w1 => ∃ g c, e = .returned (.tuple #[.slice (some ⟨g, 0, none⟩) n c, .bool true]) ∧
      w1.ownsRow w'.heap.size 3 1 (.slice (some ⟨g, 0, none⟩) n c) n (ys.map (Value.int .i64)) ∧ Below w'.heap.size w' w1 := by
    intro w' hT'; rw [hys, hn]; exact implRof_yes s w' hT' hu
  clear hys hn hu
  go_enter Tryd.func5, Tryd.ntmps5
  go_wp2_with fail
  refine (hspec _).mono ?_
  rintro e w1 ⟨gW, cW, rfl, hv1, hb1⟩
  have hW := hv1.lt gW rfl
  go_wp2_with fail
  refine (himpl _ (hT.later hb1)).mono ?_
  rintro e w2 ⟨gG, cG, rfl, hu2, hb2⟩
  have hG := hu2.lt gG rfl
  have hb2' := hb1.trans (hb2.mono hb1.size)
  have hv2 := own_later hv1 hb2
  go_wp2_with fail
  refine (eqIntS_true _ _ n _ _ ys _ hyl (rdI_own hyl.out hu2) (rdI_own hyl.out hv2) (by omega)).mono ?_
  rintro e w3 ⟨rfl, hb3⟩
  have hb3' := hb2'.trans (hb3.mono hb2'.size)
  have hv3 := own_later hv2 hb3
  have hu3 := own_later hu2 hb3
  go_wp2_with fail
  refine (markIntS_any _ n _ _ ys _ hyl (by omega) hu3).mono ?_
  rintro e w4 ⟨rfl, hu4, hg4⟩
  have hs1 := hb1.size
  have hb4 : Below w.heap.size w w4 := hb3'.grown hg4 hb3'.size (fun k h => by cases h; omega)
  have hv4 := hv3.kept hg4 (.inr (by simp [Value.ownBlock]; omega))
  clear hu2 hu3 hv1 hv2 hv3 hg4 hb3 hb3' hb2 hb2'
  go_wp2_with fail
  refine (heldIntS_marked _ n _ _ ys _ hyl (by omega) hu4).mono ?_
  rintro e w4' ⟨rfl, rfl⟩
  go_wp2_with fail
  refine (himpl _ (hT.later hb4)).mono ?_
  rintro e w5 ⟨gT, cT, rfl, ht5, hb5⟩
  have hb5' := hb4.trans (hb5.mono hb4.size)
  have hv5 := own_later hv4 hb5
  have hu5 := own_later hu4 hb5
  go_wp2_with fail
  refine (eqIntS_true _ _ n _ _ ys _ hyl (rdI_own hyl.out ht5) (rdI_own hyl.out hv5) (by omega)).mono ?_
  rintro e w6 ⟨rfl, hb6⟩
  have hb6' := hb5'.trans (hb6.mono hb5'.size)
  have hu6 := own_later hu5 hb6
  go_wp2_with fail
  refine (heldIntS_marked _ n _ _ ys _ hyl (by omega) hu6).mono ?_
  rintro e w6' ⟨rfl, rfl⟩
  go_wp2
  go_ret
  exact ⟨rfl, hb6'⟩

theorem runesOf_law (s : ByteArray) (w : World) (hT : Tabs w) (hm : s.size ≤ maxLen) :
    Calls Tryd.prog 5 #[.string s] w fun e w' => e = .returned (.bool true) ∧ Below w.heap.size w w' := by
  unfold maxLen at hm
  by_cases hn : s.size ≤ 1048576
  · by_cases hu : rofOk s
    · exact runesOf_law_yes s w hT hu
    · exact runesOf_law_no s w hT hn hu
  · have hlt : (1048576 : Int) < (s.size : Int) := by omega
    go_enter Tryd.func5, Tryd.ntmps5
    go_wp2
    go_ret
    exact ⟨rfl, Below.refl _ _⟩

end Go.Proofs.YtofbfbandipjoaaDoor
