/-
  Unhex, the program's.
-/
import Derived.Test.YtmikibekioekmaeDoorUnhS
namespace Go.Proofs.YtmikibekioekmaeDoor
open Go.RowKit
set_option linter.unusedVariables false

def hexBytes : ByteArray := ⟨#[48, 49, 50, 51, 52, 53, 54, 55, 56, 57, 97, 98, 99, 100, 101, 102]⟩

/-- What strings.IndexByte answers: the digit's value, or -1. -/
def fd (c : Int) : Int := if dg c = 16 then -1 else (dg c : Int)

theorem idx_hex (s : ByteArray) (k : Nat) (h : k < s.size) (w : World) :
    Calls Tryd.prog 20 #[.string ⟨#[48, 49, 50, 51, 52, 53, 54, 55, 56, 57, 97, 98, 99, 100, 101, 102]⟩, .int .u8 (s[k].toNat : Int)] w fun e w' => e = .returned (.int .i64 (fd (chr s k))) ∧ w' = w := by
  refine (idx_any _ _ w).mono ?_
  rintro e w' ⟨rfl, rfl⟩
  refine ⟨?_, rfl⟩
  have hb : s[k].toNat < 256 := s[k].toNat_lt
  have := find_hex s[k].toNat hb
  have e1 : ((s[k].toNat : Int)).toNat = s[k].toNat := by omega
  rw [e1, fd, chr_at s k h]
  exact congrArg (fun z => Ending.returned (Value.int .i64 z)) this

set_option maxHeartbeats 400000 in
theorem implUnhex_no (s : ByteArray) (w : World) (hn : s.size ≤ 1048576) (h : s.size % 2 ≠ 0 ∨ 131072 < s.size) :
    Calls Tryd.prog 10 #[.string s] w fun e w' => e = .returned (.tuple #[.slice none 0 0, .bool false]) ∧ w' = w := by
  by_cases h1 : s.size % 2 = 0
  · have h2 : (131072 : Int) < (s.size : Int) := by omega
    have h3 : ((s.size : Int) % 2 != 0) = false := by simp; omega
    go_enter Tryd.func10, Tryd.ntmps10
    go_wp2
    go_ret2
    exact ⟨rfl, rfl⟩
  · have h3 : ((s.size : Int) % 2 != 0) = true := by simp; omega
    go_enter Tryd.func10, Tryd.ntmps10
    go_wp2
    go_ret2
    exact ⟨rfl, rfl⟩

set_option maxRecDepth 100000 in
set_option maxHeartbeats 1000000 in
theorem implUnhex_even (s : ByteArray) (w : World) (hev : s.size % 2 = 0) (hle : s.size ≤ 131072) :
    Calls Tryd.prog 10 #[.string s] w fun e w' => Below w.heap.size w w' ∧
      (((∃ i, i < s.size ∧ dg (chr s i) = 16) ∧ e = .returned (.tuple #[.slice none 0 0, .bool false])) ∨
       ((∀ i, i < s.size → dg (chr s i) < 16) ∧ ∃ g c, e = .returned (.tuple #[.slice (some ⟨g, 0, none⟩) (s.size / 2) c, .bool true]) ∧
          w'.ownsRow w.heap.size 5 1 (.slice (some ⟨g, 0, none⟩) (s.size / 2) c) (s.size / 2) ((uns s (s.size / 2)).map (Value.int .u8)))) := by
  obtain ⟨i0, hi, hz0, hz1, hz2⟩ := info_parts Tryd.infoB
  have h3 : ((s.size : Int) % 2 != 0) = false := by simp; omega
  have h4 : ¬ (131072 : Int) < (s.size : Int) := by omega
  obtain ⟨n, hn⟩ : ∃ n, s.size = 2 * n := ⟨s.size / 2, by omega⟩
  have hn2 : s.size / 2 = n := by omega
  rw [hn2]
  have HN : Hid (s.size = 2 * n) := hn
  have hnle : n ≤ 65536 := by omega
  have hq : (s.size : Int) / 2 = (n : Int) := by omega
  clear hn hn2
  go_enter Tryd.func10, Tryd.ntmps10
  go_wp2_with (at_make; refine wpList_make_own _ rfl _ _ 22 rfl w.heap.size 5 i0 (.int .u8 0) 1 Tryd.underlying22 hi hz0 hz1 _ _ _ n rfl rfl ?b1 ?b2 ?b3 (Nat.le_refl _) ?_)
  case b1 => first | rfl | omega
  case b2 => (try rw [hz2]); omega
  case b3 => unfold maxLen; omega
  intro w0 hown0 hgrow0
  have hbel0 : Below w.heap.size w w0 := (Below.refl _ _).grown hgrow0 (Nat.le_refl _) (fun k h => by cases h)
  clear hgrow0
  go_wp2
  go_loopw [4, 24] (fun v i wr => ∃ k g c : Nat, k ≤ n ∧ v = .slice (some ⟨g, 0, none⟩) k c ∧ i = .int .i64 k ∧ Hid (∀ i, i < 2 * k → dg (chr s i) < 16) ∧
      wr.ownsRow w.heap.size 5 1 (.slice (some ⟨g, 0, none⟩) k c) k ((uns s k).map (Value.int .u8)) ∧ Below w.heap.size w wr)
    (fun _ i _ => n - (intOf i).toNat)
  case atStart => exact ⟨0, _, _, Nat.zero_le _, rfl, rfl, fun i h => by omega, hown0, hbel0⟩
  case round =>
    obtain ⟨k, g, c, hk, rfl, rfl, hgood, hown, hbel⟩ := hrel
    have hbs := hbel.size
    by_cases hlt : k < n
    · have hl1 : 2 * k < s.size := by have := HN.out; omega
      have hl2 : 2 * k + 1 < s.size := by have := HN.out; omega
      have hd1 := dg_le (chr s (2 * k))
      have hd2 := dg_le (chr s (2 * k + 1))
      have hg := hown.lt g rfl
      obtain ⟨A, hA⟩ : ∃ A, A = fd (chr s (2 * k)) := ⟨_, rfl⟩
      obtain ⟨B, hB⟩ : ∃ B, B = fd (chr s (2 * k + 1)) := ⟨_, rfl⟩
      by_cases hbA : dg (chr s (2 * k)) = 16
      · have hAn : A < 0 := by rw [hA, fd, if_pos hbA]; decide
        have HA : Hid (A = fd (chr s (2 * k))) := hA
        clear hA
        go_wp2_with fail
        refine (idx_hex s (2 * k) hl1 _).mono ?_
        rintro e w' ⟨rfl, rfl⟩
        rw [← HA.out]
        go_wp2_with fail
        refine (idx_hex s (2 * k + 1) hl2 _).mono ?_
        rintro e w' ⟨rfl, rfl⟩
        go_wp2
        go_ret2
        exact ⟨hbel, .inl ⟨⟨2 * k, hl1, hbA⟩, rfl⟩⟩
      by_cases hbB : dg (chr s (2 * k + 1)) = 16
      · have hAn : 0 ≤ A := by rw [hA, fd, if_neg hbA]; omega
        have hBn : B < 0 := by rw [hB, fd, if_pos hbB]; decide
        have HA : Hid (A = fd (chr s (2 * k))) := hA
        have HB : Hid (B = fd (chr s (2 * k + 1))) := hB
        clear hA hB
        go_wp2_with fail
        refine (idx_hex s (2 * k) hl1 _).mono ?_
        rintro e w' ⟨rfl, rfl⟩
        rw [← HA.out]
        go_wp2_with fail
        refine (idx_hex s (2 * k + 1) hl2 _).mono ?_
        rintro e w' ⟨rfl, rfl⟩
        rw [← HB.out]
        go_wp2
        go_ret2
        exact ⟨hbel, .inl ⟨⟨2 * k + 1, hl2, hbB⟩, rfl⟩⟩
      have hAe : A = (dg (chr s (2 * k)) : Int) := by rw [hA, fd, if_neg hbA]
      have hBe : B = (dg (chr s (2 * k + 1)) : Int) := by rw [hB, fd, if_neg hbB]
      have hA0 : 0 ≤ A := by omega
      have hA1 : A ≤ 15 := by omega
      have hB0 : 0 ≤ B := by omega
      have hB1 : B ≤ 15 := by omega
      have HA : Hid (A = fd (chr s (2 * k))) := hA
      have HB : Hid (B = fd (chr s (2 * k + 1))) := hB
      have HU : Hid (uns s (k + 1) = uns s k ++ [16 * A + B]) := by show uns s (k + 1) = _; rw [uns, hAe, hBe]
      clear hA hB hAe hBe
      go_wp2_with fail
      refine (idx_hex s (2 * k) hl1 _).mono ?_
      rintro e w' ⟨rfl, rfl⟩
      rw [← HA.out]
      go_wp2_with fail
      refine (idx_hex s (2 * k + 1) hl2 _).mono ?_
      rintro e w2 ⟨rfl, rfl⟩
      rw [← HB.out]
      go_wp2_with (at_builtin; refine wpList_append_lies _ rfl _ _ 22 rfl w.heap.size 5 i0 (.int .u8 0) 1 1 Tryd.underlying22 hi hz0 hz1 hz2 rfl (by decide) _ k _ rfl (hown.alloc _) ⟨_, 0, none⟩ 1 _ [.int .u8 (16 * A + B)] rfl rfl ?c1 ?c2 (by omega) ?c3 ?c4 ?c5 _ rfl ?_)
      case c1 => exact cell_one_new _ _ _
      case c2 => intro u hu; simp at hu; subst hu; rfl
      case c3 => unfold maxLen; omega
      case c4 => omega
      case c5 => simp; omega
      intro gg cap1 w3 hown3 hgrow3 _ _
      have hbel3 : Below w.heap.size w w3 := (hbel.alloc hbs _).grown hgrow3 (by simp; omega) (fun y h => by cases h; exact hg.1)
      have hown4 : w3.ownsRow w.heap.size 5 1 (.slice (some ⟨gg, 0, none⟩) (k + 1) cap1) (k + 1) ((uns s (k + 1)).map (Value.int .u8)) := by
        rw [HU.out, List.map_append]
        exact hown3
      clear hown3 hgrow3 hown
      go_wp2
      go_roundw
      case rel =>
        refine ⟨k + 1, gg, cap1, by omega, rfl, by go_num, ?_, hown4, hbel3⟩
        intro i hi'
        by_cases h : i < 2 * k
        · exact hgood.out i h
        · by_cases h' : i = 2 * k
          · subst h'; omega
          · have : i = 2 * k + 1 := by omega
            subst this; omega
      case measure => simp [intOf]; omega
    · have e : k = n := by omega
      subst e
      go_wp2
      go_ret2
      exact ⟨hbel, .inr ⟨fun i h => hgood.out i (by have := HN.out; omega), g, c, rfl, hown⟩⟩

end Go.Proofs.YtmikibekioekmaeDoor
