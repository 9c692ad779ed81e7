/-
  The walk of the law FnExactUnhex: it returns true and writes nothing that was there.
-/
import Derived.Test.YtmikibekioekmaeDoorUnhI
namespace Go.Proofs.YtmikibekioekmaeDoor
open Go.RowKit
set_option linter.unusedVariables false

theorem rd_nilU (w : World) : Rd w none [] := ⟨fun i => by simp, .inl rfl⟩

def uok (s : ByteArray) : Prop := s.size % 2 = 0 ∧ s.size ≤ 131072 ∧ ∀ i, i < s.size → dg (chr s i) < 16

theorem implUnhex_nil (s : ByteArray) (w : World) (hn : s.size ≤ 1048576) (h : ¬ uok s) :
    Calls Tryd.prog 10 #[.string s] w fun e w' => e = .returned (.tuple #[.slice none 0 0, .bool false]) ∧ Below w.heap.size w w' := by
  by_cases h1 : s.size % 2 ≠ 0 ∨ 131072 < s.size
  · refine (implUnhex_no s w hn h1).mono ?_
    rintro e w' ⟨rfl, rfl⟩
    exact ⟨rfl, Below.refl _ _⟩
  · refine (implUnhex_even s w (by omega) (by omega)).mono ?_
    rintro e w' ⟨hb, ⟨_, rfl⟩ | ⟨hg, _⟩⟩
    · exact ⟨rfl, hb⟩
    · exact absurd ⟨by omega, by omega, hg⟩ h

theorem implUnhex_ok (s : ByteArray) (w : World) (h : uok s) :
    Calls Tryd.prog 10 #[.string s] w fun e w' => ∃ g c, e = .returned (.tuple #[.slice (some ⟨g, 0, none⟩) (s.size / 2) c, .bool true]) ∧
      w'.ownsRow w.heap.size 5 1 (.slice (some ⟨g, 0, none⟩) (s.size / 2) c) (s.size / 2) ((uns s (s.size / 2)).map (Value.int .u8)) ∧ Below w.heap.size w w' := by
  refine (implUnhex_even s w h.1 h.2.1).mono ?_
  rintro e w' ⟨hb, ⟨⟨i, hi, hd⟩, _⟩ | ⟨_, g, c, rfl, ho⟩⟩
  · have := h.2.2 i hi; omega
  · exact ⟨g, c, rfl, ho, hb⟩

theorem uns_bd (s : ByteArray) (hg : ∀ i, i < s.size → dg (chr s i) < 16) : ∀ k, 2 * k ≤ s.size → ∀ i : Nat, 0 ≤ (uns s k)[i]?.getD 0 ∧ (uns s k)[i]?.getD 0 ≤ 255
  | 0, _, i => by simp [uns]
  | k + 1, h, i => by
    rw [uns, List.getElem?_append]
    split
    · exact uns_bd s hg k (by omega) i
    · have h1 := hg (2 * k) (by omega)
      have h2 := hg (2 * k + 1) (by omega)
      rcases Nat.eq_zero_or_pos (i - (uns s k).length) with e | e
      · rw [e]; simp; omega
      · rw [List.getElem?_eq_none (by simp; omega)]; simp

end Go.Proofs.YtmikibekioekmaeDoor
