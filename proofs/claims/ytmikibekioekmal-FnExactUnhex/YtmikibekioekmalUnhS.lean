/-
  Unhex, the model's.
-/
import Derived.Test.YtmikibekioekmalUnh
namespace Go.Proofs.Ytmikibekioekmal
open Go.RowKit
set_option linter.unusedVariables false

/-- The byte at k, as a number; 0 behind the end. -/
def chr (s : ByteArray) (k : Nat) : Int := if h : k < s.size then (s[k].toNat : Int) else 0
theorem chr_at (s : ByteArray) (k : Nat) (h : k < s.size) : chr s k = (s[k].toNat : Int) := by simp [chr, h]
theorem chr_bd (s : ByteArray) (k : Nat) : 0 ≤ chr s k ∧ chr s k ≤ 255 := by
  unfold chr
  split
  · rename_i h
    have := s[k].toNat_lt
    omega
  · omega

/-- The bytes that the first 2k digits make. -/
def uns (s : ByteArray) : Nat → List Int
  | 0 => []
  | k + 1 => uns s k ++ [16 * (dg (chr s (2 * k)) : Int) + dg (chr s (2 * k + 1))]
theorem uns_len (s : ByteArray) : ∀ k, (uns s k).length = k
  | 0 => rfl
  | k + 1 => by simp [uns, uns_len s k]

theorem own_drewN {w : World} {base : Nat} {e : TypeId} {size : Nat} {v : Value} {n : Nat} {xs : List Value} (h : w.ownsRow base e size v n xs) (q : Nat) : (w.drewN q).ownsRow base e size v n xs := h

set_option maxHeartbeats 400000 in
theorem specUnhex_no (s : ByteArray) (w : World) (hn : s.size ≤ 1048576) (h : s.size % 2 ≠ 0 ∨ 131072 < s.size) :
    Calls Try.prog 9 #[.string s] w fun e w' => e = .returned (.tuple #[.slice none 0 0, .bool false]) ∧ w' = w := by
  by_cases h1 : s.size % 2 = 0
  · have h2 : (131072 : Int) < (s.size : Int) := by omega
    have h3 : ((s.size : Int) % 2 != 0) = false := by simp; omega
    go_enter Try.func9, Try.ntmps9
    go_wp2
    go_ret2
    exact ⟨rfl, rfl⟩
  · have h3 : ((s.size : Int) % 2 != 0) = true := by simp; omega
    go_enter Try.func9, Try.ntmps9
    go_wp2
    go_ret2
    exact ⟨rfl, rfl⟩

set_option maxRecDepth 100000 in
set_option maxHeartbeats 1000000 in
theorem specUnhex_even (s : ByteArray) (w : World) (hev : s.size % 2 = 0) (hle : s.size ≤ 131072) :
    Calls Try.prog 9 #[.string s] w fun e w' => Below w.heap.size w w' ∧
      (((∃ i, i < s.size ∧ dg (chr s i) = 16) ∧ e = .returned (.tuple #[.slice none 0 0, .bool false])) ∨
       ((∀ i, i < s.size → dg (chr s i) < 16) ∧ ∃ g c, e = .returned (.tuple #[.slice (some ⟨g, 0, none⟩) (s.size / 2) c, .bool true]) ∧
          w'.ownsRow w.heap.size 5 1 (.slice (some ⟨g, 0, none⟩) (s.size / 2) c) (s.size / 2) ((uns s (s.size / 2)).map (Value.int .u8)))) := by
  obtain ⟨i0, hi, hz0, hz1, hz2⟩ := info_parts Try.infoB
  have hown0 := World.ownsRow_lit (base := w.heap.size) (e := 5) (size := 1) w #[] 0 (Nat.le_refl _) (Nat.zero_le _) rfl
  have h3 : ((s.size : Int) % 2 != 0) = false := by simp; omega
  have h4 : ¬ (131072 : Int) < (s.size : Int) := by omega
  go_enter Try.func9, Try.ntmps9
  go_wp2
  go_loopw [4, 5, 6] (fun v hf i wr => ∃ k g c : Nat, k ≤ s.size ∧ v = .slice (some ⟨g, 0, none⟩) (k / 2) c ∧ i = .int .i64 k ∧ (∀ i, i < k → dg (chr s i) < 16) ∧ (∃ hv : Nat, hf = .int .i64 hv ∧ hv ≤ 15 ∧ Hid (k % 2 = 0 → hv = 0) ∧ Hid (k % 2 = 1 → hv = dg (chr s (k - 1)))) ∧
      wr.ownsRow w.heap.size 5 1 (.slice (some ⟨g, 0, none⟩) (k / 2) c) (k / 2) ((uns s (k / 2)).map (Value.int .u8)) ∧ Below w.heap.size w wr)
    (fun _ _ i _ => s.size - (intOf i).toNat)
  case atStart => exact ⟨0, _, 0, Nat.zero_le _, rfl, rfl, fun i h => by omega, ⟨0, rfl, by omega, fun _ => rfl, fun h => by omega⟩, hown0, (Below.refl _ _).alloc (Nat.le_refl _) _⟩
  case round =>
    obtain ⟨k, g, c, hk, rfl, rfl, hgood, ⟨hv, rfl, hv15, hv0, hv1⟩, hown, hbel⟩ := hrel
    by_cases hlt : k < s.size
    · have hlt' : (k : Int) < (s.size : Int) := by omega
      have hd16 := dg_le (chr s k)
      obtain ⟨D, hD⟩ : ∃ D, D = dg (chr s k) := ⟨_, rfl⟩
      have hmiss : Hid (∀ d : Nat, d < D → hx (d : Int) ≠ (s[k].toNat : Int)) := by
        intro d h
        rw [← chr_at s k hlt]
        exact dg_miss _ d (by omega)
      have hhit : Hid (D < 16 → hx (D : Int) = (s[k].toNat : Int)) := by
        intro h
        rw [← chr_at s k hlt, hD]
        exact dg_hit _ (by omega)
      rw [← hD] at hd16
      have HD : Hid (D = dg (chr s k)) := hD
      have HG : Hid (∀ i, i < k → dg (chr s i) < 16) := hgood
      clear hD hgood
      go_wp2
      go_loopw [7] (fun d wx => ∃ j : Nat, j ≤ D ∧ d = .int .i64 j ∧ Below wr.heap.size wr wx) (fun d _ => 16 - (intOf d).toNat)
      case atStart => exact ⟨0, Nat.zero_le _, rfl, Below.refl _ _⟩
      case round =>
        obtain ⟨j, hj, rfl, hbx⟩ := hrel
        have hown' := own_later hown hbx
        have hbel' := hbel.trans (hbx.mono hbel.size)
        have hbs := hbel'.size
        by_cases hj16 : j < 16
        · have hj16' : (j : Int) < 16 := by omega
          by_cases hjD : j < D
          · have hne : (hx (j : Int) != (s[k].toNat : Int)) = true := by simpa using hmiss.out j hjD
            go_wp2
            go_quiet ((go_at_call 13; refine Calls.quiet_of_same (digit_any _ _ ?_ ?_) <;> omega))
            go_wp2
            go_roundw
            case rel => exact ⟨j + 1, by omega, by go_num, below_drewN hbx _⟩
            case measure => simp [intOf]; omega
          · have e : j = D := by omega
            subst e
            have hne : (hx (j : Int) != (s[k].toNat : Int)) = false := by simpa using hhit.out hj16
            have hj16n : ((j : Int) == 16) = false := by simp; omega
            go_wp2
            go_quiet ((go_at_call 13; refine Calls.quiet_of_same (digit_any _ _ ?_ ?_) <;> omega))
            have hown2 := own_drewN hown' nq
            have hbel2 := below_drewN hbel' nq
            have hg2 := hown2.lt g rfl
            by_cases hodd : k % 2 = 1
            · have ho1 : ((k : Int) % 2 == 1) = true := by simp; omega
              have hbyte : (hv : Int) * 16 + (j : Int) ≤ 255 := by omega
              go_wp2_with (at_builtin; refine wpList_append_lies _ rfl _ _ 22 rfl w.heap.size 5 i0 (.int .u8 0) 1 1 Try.underlying22 hi hz0 hz1 hz2 rfl (by decide) _ (k / 2) _ rfl (hown2.alloc _) ⟨_, 0, none⟩ 1 _ [.int .u8 ((hv : Int) * 16 + (j : Int))] rfl rfl ?c1 ?c2 (by omega) ?c3 ?c4 ?c5 _ rfl ?_)
              case c1 => exact cell_one_new _ _ _
              case c2 => intro u hu; simp at hu; subst hu; rfl
              case c3 => unfold maxLen; omega
              case c4 => omega
              case c5 => simp; omega
              intro gg cap1 w3 hown3 hgrow3 _ _
              have hbel3 : Below w.heap.size w w3 := (hbel2.alloc (by simpa using hbs) _).grown hgrow3 (by simp; omega) (fun y h => by cases h; exact hg2.1)
              have e1 : (k + 1) / 2 = k / 2 + 1 := by omega
              have e2 : 2 * (k / 2) = k - 1 := by omega
              have e3 : 2 * (k / 2) + 1 = k := by omega
              have hown4 : w3.ownsRow w.heap.size 5 1 (.slice (some ⟨gg, 0, none⟩) ((k + 1) / 2) cap1) ((k + 1) / 2) ((uns s ((k + 1) / 2)).map (Value.int .u8)) := by
                rw [e1, uns, e3, e2, ← hv1.out hodd, ← HD.out, List.map_append]
                have e4 : (16 : Int) * (hv : Int) + (j : Int) = (hv : Int) * 16 + (j : Int) := by omega
                rw [e4]
                exact hown3
              rw [← e1]
              clear hown3 hgrow3 hown2 hown' hown e1
              go_wp2
              go_roundw
              case rel =>
                refine ⟨k + 1, gg, cap1, by omega, rfl, by go_num, ?_, ⟨0, rfl, by omega, fun _ => rfl, fun h => by omega⟩, hown4, hbel3⟩
                intro i hi'
                by_cases h : i = k
                · subst h; rw [← HD.out]; exact hj16
                · exact HG.out i (by omega)
              case measure => simp [intOf]; omega
            · have ho1 : ((k : Int) % 2 == 1) = false := by simp; omega
              have e1 : (k + 1) / 2 = k / 2 := by omega
              have hz : hv = 0 := hv0.out (by omega)
              subst hz
              have HE : Hid ((k + 1) / 2 = k / 2) := e1
              clear e1
              go_wp2
              go_roundw
              case rel =>
                refine ⟨k + 1, g, c, by omega, by rw [HE.out], by go_num, ?_, ⟨j, by go_num, by omega, fun h => by omega, fun _ => by rw [HD.out]; rfl⟩, by rw [HE.out]; exact hown2, hbel2⟩
                intro i hi'
                by_cases h : i = k
                · subst h; rw [← HD.out]; exact hj16
                · exact HG.out i (by omega)
              case measure => simp [intOf]; omega
        · have e : j = 16 := by omega
          have e2 : D = 16 := by omega
          subst e
          subst e2
          have hd : decide ((16 : Int) < 16) = false := by decide
          go_wp2
          go_quiet (fail)
          go_wp2
          go_ret2
          exact ⟨below_drewN hbel' _, .inl ⟨⟨k, hlt, HD.out.symm⟩, rfl⟩⟩
    · have e : k = s.size := by omega
      subst e
      go_wp2
      go_ret2
      exact ⟨hbel, .inr ⟨hgood, g, c, rfl, hown⟩⟩

end Go.Proofs.Ytmikibekioekmal
