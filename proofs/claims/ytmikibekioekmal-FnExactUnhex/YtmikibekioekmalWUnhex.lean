/-
  The walk of the law FnExactUnhex: it returns true and writes nothing that was there.
-/
import Derived.Test.YtmikibekioekmalUnhI
namespace Go.Proofs.Ytmikibekioekmal
open Go.RowKit
set_option linter.unusedVariables false

theorem rd_nil (w : World) : Rd w none [] := ⟨fun i => by simp, .inl rfl⟩

def uok (s : ByteArray) : Prop := s.size % 2 = 0 ∧ s.size ≤ 131072 ∧ ∀ i, i < s.size → dg (chr s i) < 16

theorem specUnhex_nil (s : ByteArray) (w : World) (hn : s.size ≤ 1048576) (h : ¬ uok s) :
    Calls Try.prog 9 #[.string s] w fun e w' => e = .returned (.tuple #[.slice none 0 0, .bool false]) ∧ Below w.heap.size w w' := by
  by_cases h1 : s.size % 2 ≠ 0 ∨ 131072 < s.size
  · refine (specUnhex_no s w hn h1).mono ?_
    rintro e w' ⟨rfl, rfl⟩
    exact ⟨rfl, Below.refl _ _⟩
  · refine (specUnhex_even s w (by omega) (by omega)).mono ?_
    rintro e w' ⟨hb, ⟨_, rfl⟩ | ⟨hg, _⟩⟩
    · exact ⟨rfl, hb⟩
    · exact absurd ⟨by omega, by omega, hg⟩ h

theorem implUnhex_nil (s : ByteArray) (w : World) (hn : s.size ≤ 1048576) (h : ¬ uok s) :
    Calls Try.prog 10 #[.string s] w fun e w' => e = .returned (.tuple #[.slice none 0 0, .bool false]) ∧ Below w.heap.size w w' := by
  by_cases h1 : s.size % 2 ≠ 0 ∨ 131072 < s.size
  · refine (implUnhex_no s w hn h1).mono ?_
    rintro e w' ⟨rfl, rfl⟩
    exact ⟨rfl, Below.refl _ _⟩
  · refine (implUnhex_even s w (by omega) (by omega)).mono ?_
    rintro e w' ⟨hb, ⟨_, rfl⟩ | ⟨hg, _⟩⟩
    · exact ⟨rfl, hb⟩
    · exact absurd ⟨by omega, by omega, hg⟩ h

theorem specUnhex_ok (s : ByteArray) (w : World) (h : uok s) :
    Calls Try.prog 9 #[.string s] w fun e w' => ∃ g c, e = .returned (.tuple #[.slice (some ⟨g, 0, none⟩) (s.size / 2) c, .bool true]) ∧
      w'.ownsRow w.heap.size 5 1 (.slice (some ⟨g, 0, none⟩) (s.size / 2) c) (s.size / 2) ((uns s (s.size / 2)).map (Value.int .u8)) ∧ Below w.heap.size w w' := by
  refine (specUnhex_even s w h.1 h.2.1).mono ?_
  rintro e w' ⟨hb, ⟨⟨i, hi, hd⟩, _⟩ | ⟨_, g, c, rfl, ho⟩⟩
  · have := h.2.2 i hi; omega
  · exact ⟨g, c, rfl, ho, hb⟩

theorem implUnhex_ok (s : ByteArray) (w : World) (h : uok s) :
    Calls Try.prog 10 #[.string s] w fun e w' => ∃ g c, e = .returned (.tuple #[.slice (some ⟨g, 0, none⟩) (s.size / 2) c, .bool true]) ∧
      w'.ownsRow w.heap.size 5 1 (.slice (some ⟨g, 0, none⟩) (s.size / 2) c) (s.size / 2) ((uns s (s.size / 2)).map (Value.int .u8)) ∧ Below w.heap.size w w' := by
  refine (implUnhex_even s w h.1 h.2.1).mono ?_
  rintro e w' ⟨hb, ⟨⟨i, hi, hd⟩, _⟩ | ⟨_, g, c, rfl, ho⟩⟩
  · have := h.2.2 i hi; omega
  · exact ⟨g, c, rfl, ho, hb⟩

theorem uns_bd (s : ByteArray) (hg : ∀ i, i < s.size → dg (chr s i) < 16) : ∀ k, 2 * k ≤ s.size → ∀ i : Nat, 0 ≤ (uns s k)[i]?.getD 0 ∧ (uns s k)[i]?.getD 0 ≤ 255
  | 0, _, i => by simp [uns]
  | k + 1, h, i => by
    rw [uns, List.getElem?_append]
    split
    · exact uns_bd s hg k (by omega) i
    · have h1 := hg (2 * k) (by omega)
      have h2 := hg (2 * k + 1) (by omega)
      rcases Nat.eq_zero_or_pos (i - (uns s k).length) with e | e
      · rw [e]; simp; omega
      · rw [List.getElem?_eq_none (by simp; omega)]; simp

set_option maxHeartbeats 1000000 in
theorem unhex_law_no (s : ByteArray) (w : World) (hn : s.size ≤ 1048576) (hu : ¬ uok s) :
    Calls Try.prog 4 #[.string s] w fun e w' => e = .returned (.bool true) ∧ Below w.heap.size w w' := by
  have hlt : ¬ (1048576 : Int) < (s.size : Int) := by omega
  have HU : Hid (¬ uok s) := hu
  clear hu
  have hnil : Hid (([] : List Int).length = 0) := rfl
  go_enter Try.func4, Try.ntmps4
  go_wp2_with fail
  refine (specUnhex_nil s _ hn HU.out).mono ?_
  rintro e w1 ⟨rfl, hb1⟩
  go_wp2_with fail
  refine (implUnhex_nil s _ hn HU.out).mono ?_
  rintro e w2 ⟨rfl, hb2⟩
  have hb2' := hb1.trans (hb2.mono hb1.size)
  go_wp2_with fail
  refine (eqByteS_true _ _ 0 _ _ [] _ hnil (rd_nil _) (rd_nil _) (by omega)).mono ?_
  rintro e w3 ⟨rfl, hb3⟩
  have hb3' := hb2'.trans (hb3.mono hb2'.size)
  go_wp2_with fail
  refine (markByteS_none _ _ _).mono ?_
  rintro e w3' ⟨rfl, rfl⟩
  go_wp2_with fail
  refine (heldByteS_none _ _ _).mono ?_
  rintro e w3' ⟨rfl, rfl⟩
  go_wp2_with fail
  refine (implUnhex_nil s _ hn HU.out).mono ?_
  rintro e w4 ⟨rfl, hb4⟩
  have hb4' := hb3'.trans (hb4.mono hb3'.size)
  go_wp2_with fail
  refine (eqByteS_true _ _ 0 _ _ [] _ hnil (rd_nil _) (rd_nil _) (by omega)).mono ?_
  rintro e w5 ⟨rfl, hb5⟩
  have hb5' := hb4'.trans (hb5.mono hb4'.size)
  go_wp2_with fail
  refine (heldByteS_none _ _ _).mono ?_
  rintro e w5' ⟨rfl, rfl⟩
  go_wp2
  go_ret
  exact ⟨rfl, hb5'⟩

set_option maxHeartbeats 1000000 in
theorem unhex_law_yes (s : ByteArray) (w : World) (hu : uok s) :
    Calls Try.prog 4 #[.string s] w fun e w' => e = .returned (.bool true) ∧ Below w.heap.size w w' := by
  have hle := hu.2.1
  have hlt : ¬ (1048576 : Int) < (s.size : Int) := by omega
  obtain ⟨n, hn⟩ : ∃ n, n = s.size / 2 := ⟨_, rfl⟩
  have hnle : n ≤ 65536 := by omega
  obtain ⟨ys, hys⟩ : ∃ ys, ys = uns s n := ⟨_, rfl⟩
  have hyl : Hid (ys.length = n) := by show ys.length = _; rw [hys, uns_len]
  have hyb : ∀ i : Nat, 0 ≤ ys[i]?.getD 0 ∧ ys[i]?.getD 0 ≤ 255 := by rw [hys]; exact uns_bd s hu.2.2 n (by omega)
  have hspec : ∀ w', Calls Try.prog 9 #[.string s] w' fun e w1 => ∃ g c, e = .returned (.tuple #[.slice (some ⟨g, 0, none⟩) n c, .bool true]) ∧
      w1.ownsRow w'.heap.size 5 1 (.slice (some ⟨g, 0, none⟩) n c) n (ys.map (Value.int .u8)) ∧ Below w'.heap.size w' w1 := by
    intro w'; rw [hys, hn]; exact specUnhex_ok s w' hu
  have himpl : ∀ w', Calls Try.prog 10 #[.string s] w' fun e w1 => ∃ g c, e = .returned (.tuple #[.slice (some ⟨g, 0, none⟩) n c, .bool true]) ∧
      w1.ownsRow w'.heap.size 5 1 (.slice (some ⟨g, 0, none⟩) n c) n (ys.map (Value.int .u8)) ∧ Below w'.heap.size w' w1 := by
    intro w'; rw [hys, hn]; exact implUnhex_ok s w' hu
  clear hys hn hu
  go_enter Try.func4, Try.ntmps4
  go_wp2_with fail
  refine (hspec _).mono ?_
  rintro e w1 ⟨gW, cW, rfl, hv1, hb1⟩
  have hW := hv1.lt gW rfl
  go_wp2_with fail
  refine (himpl _).mono ?_
  rintro e w2 ⟨gG, cG, rfl, hu2, hb2⟩
  have hG := hu2.lt gG rfl
  have hb2' := hb1.trans (hb2.mono hb1.size)
  have hv2 := own_later hv1 hb2
  go_wp2_with fail
  refine (eqByteS_true _ _ n _ _ ys _ hyl (rd_own hyl.out hyb hu2) (rd_own hyl.out hyb hv2) (by omega)).mono ?_
  rintro e w3 ⟨rfl, hb3⟩
  have hb3' := hb2'.trans (hb3.mono hb2'.size)
  have hv3 := own_later hv2 hb3
  have hu3 := own_later hu2 hb3
  go_wp2_with fail
  refine (markByteS_any _ n _ _ ys _ hyl (by omega) hu3).mono ?_
  rintro e w4 ⟨rfl, hu4, hg4⟩
  have hs1 := hb1.size
  have hb4 : Below w.heap.size w w4 := hb3'.grown hg4 hb3'.size (fun k h => by cases h; omega)
  have hv4 := hv3.kept hg4 (.inr (by simp [Value.ownBlock]; omega))
  clear hu2 hu3 hv1 hv2 hv3 hg4 hb3 hb3' hb2 hb2'
  go_wp2_with fail
  refine (heldByteS_marked _ n _ _ ys _ hyl (by omega) hu4).mono ?_
  rintro e w4' ⟨rfl, rfl⟩
  go_wp2_with fail
  refine (himpl _).mono ?_
  rintro e w5 ⟨gT, cT, rfl, ht5, hb5⟩
  have hb5' := hb4.trans (hb5.mono hb4.size)
  have hv5 := own_later hv4 hb5
  have hu5 := own_later hu4 hb5
  go_wp2_with fail
  refine (eqByteS_true _ _ n _ _ ys _ hyl (rd_own hyl.out hyb ht5) (rd_own hyl.out hyb hv5) (by omega)).mono ?_
  rintro e w6 ⟨rfl, hb6⟩
  have hb6' := hb5'.trans (hb6.mono hb5'.size)
  have hu6 := own_later hu5 hb6
  go_wp2_with fail
  refine (heldByteS_marked _ n _ _ ys _ hyl (by omega) hu6).mono ?_
  rintro e w6' ⟨rfl, rfl⟩
  go_wp2
  go_ret
  exact ⟨rfl, hb6'⟩

theorem unhex_law (s : ByteArray) (w : World) (hm : s.size ≤ maxLen) :
    Calls Try.prog 4 #[.string s] w fun e w' => e = .returned (.bool true) ∧ Below w.heap.size w w' := by
  unfold maxLen at hm
  by_cases hn : s.size ≤ 1048576
  · by_cases hu : uok s
    · exact unhex_law_yes s w hu
    · exact unhex_law_no s w hn hu
  · have hlt : (1048576 : Int) < (s.size : Int) := by omega
    go_enter Try.func4, Try.ntmps4
    go_wp2
    go_ret
    exact ⟨rfl, Below.refl _ _⟩

end Go.Proofs.Ytmikibekioekmal
