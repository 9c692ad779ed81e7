/-
  Parts and Lines, the model's: the pieces between the signs.
-/
import Derived.Test.YtmikibekioekmalDoorPcs
import Derived.Test.YtmikibekioekmalDoorStrS
namespace Go.Proofs.YtmikibekioekmalDoor
open Go.RowKit
set_option linter.unusedVariables false

theorem take_snoc (s : ByteArray) (k : Nat) (h : k < s.size) : s.data.toList.take (k + 1) = s.data.toList.take k ++ [s[k]] := by
  rw [List.take_succ_eq_append_getElem (by simpa using h)]; rfl

/-- What is known behind k bytes: the pieces that are whole, and the one that is open from f on. -/
def Cut (c : UInt8) (s : ByteArray) (k f : Nat) (outs : List (List UInt8)) : Prop := pcs c (s.data.toList.take k) = outs ++ [(s.data.toList.take k).drop f]

theorem cut_zero (c : UInt8) (s : ByteArray) : Cut c s 0 0 [] := by simp [Cut, pcs]

theorem cut_hit {c : UInt8} {s : ByteArray} {k f : Nat} {outs : List (List UInt8)} (h : Cut c s k f outs) (hk : k < s.size) (hc : s[k] = c) : Cut c s (k + 1) (k + 1) (outs ++ [(s.data.toList.take k).drop f]) := by
  unfold Cut at *
  have e : (s.data.toList.take (k + 1)).drop (k + 1) = [] := List.drop_eq_nil_of_le (by rw [List.length_take]; omega)
  rw [e, take_snoc s k hk, hc, pcs_hit, h]

theorem cut_miss {c : UInt8} {s : ByteArray} {k f : Nat} {outs : List (List UInt8)} (h : Cut c s k f outs) (hk : k < s.size) (hf : f ≤ k) (hc : s[k] ≠ c) : Cut c s (k + 1) f outs := by
  unfold Cut at *
  have e : (s.data.toList.take (k + 1)).drop f = (s.data.toList.take k).drop f ++ [s[k]] := by
    rw [take_snoc s k hk, List.drop_append_of_le_length]
    rw [List.length_take]
    have : s.data.toList.length = s.size := by simp
    omega
  rw [e, take_snoc s k hk]
  exact pcs_miss c s[k] hc _ _ _ h

theorem cut_end {c : UInt8} {s : ByteArray} {f : Nat} {outs : List (List UInt8)} (h : Cut c s s.size f outs) : pcsB c s = outs.map toB ++ [s.extract f s.size] := by
  unfold Cut at h
  have e : s.data.toList.take s.size = s.data.toList := List.take_of_length_le (by simp)
  rw [ext_toB, e]
  rw [e] at h
  rw [pcsB, h]
  simp

/-- The pieces without the last where that one is empty. -/
def linB (c : UInt8) (s : ByteArray) : List ByteArray := if ((pcsB c s).getLastD ByteArray.empty).size = 0 then (pcsB c s).dropLast else pcsB c s

set_option maxRecDepth 100000 in
set_option maxHeartbeats 1000000 in
theorem specParts_any (s : ByteArray) (w : World) (hn : s.size ≤ 1048576) :
    Calls Tryd.prog 5 #[.string s] w fun e w' => ∃ g cp : Nat, e = .returned (.slice (some ⟨g, 0, none⟩) (pcsB 32 s).length cp) ∧
      w'.ownsRow w.heap.size 9 1 (.slice (some ⟨g, 0, none⟩) (pcsB 32 s).length cp) (pcsB 32 s).length ((pcsB 32 s).map Value.string) ∧ Below w.heap.size w w' := by
  obtain ⟨i0, hi, hz0, hz1, hz2⟩ := info_parts Tryd.infoS
  have hown0 := World.ownsRow_lit (base := w.heap.size) (e := 9) (size := 1) w #[] 0 (Nat.le_refl _) (Nat.zero_le _) rfl
  go_enter Tryd.func5, Tryd.ntmps5
  go_wp2
  go_loopw [3, 4, 5] (fun v fr i wr => ∃ (k f g cp m : Nat) (outs : List (List UInt8)), k ≤ s.size ∧ f ≤ k ∧ v = .slice (some ⟨g, 0, none⟩) m cp ∧ fr = .int .i64 f ∧ i = .int .i64 k ∧ Hid (Cut 32 s k f outs ∧ outs.length = m) ∧ m ≤ k ∧
      wr.ownsRow w.heap.size 9 1 (.slice (some ⟨g, 0, none⟩) m cp) m ((outs.map toB).map Value.string) ∧ Below w.heap.size w wr)
    (fun _ _ i _ => s.size - (intOf i).toNat)
  case atStart => exact ⟨0, 0, _, 0, 0, [], Nat.zero_le _, Nat.zero_le _, rfl, rfl, rfl, ⟨cut_zero _ _, rfl⟩, Nat.zero_le _, hown0, (Below.refl _ _).alloc (Nat.le_refl _) _⟩
  case round =>
    obtain ⟨k, f, g, cp, m, outs, hk, hf, rfl, rfl, rfl, HC, hm, hown, hbel⟩ := hrel
    have hbs := hbel.size
    have hg := hown.lt g rfl
    by_cases hlt : k < s.size
    · have hlt' : (k : Int) < (s.size : Int) := by omega
      by_cases hc : s[k] = 32
      · have hc' : ((s[k].toNat : Int) == 32) = true := by rw [hc]; rfl
        have HC2 : Hid (Cut 32 s (k + 1) (k + 1) (outs ++ [(s.data.toList.take k).drop f]) ∧ (outs ++ [(s.data.toList.take k).drop f]).length = m + 1) := ⟨cut_hit HC.out.1 hlt hc, by rw [List.length_append, HC.out.2]; rfl⟩
        obtain ⟨T, hT⟩ : ∃ T, T = s.extract f k := ⟨_, rfl⟩
        have HT : Hid (T = s.extract f k) := hT
        clear hT hc
        go_wp2_with (at_builtin; refine wpList_append_lies _ rfl _ _ 22 rfl w.heap.size 9 i0 (.string ByteArray.empty) 1 16 Tryd.underlying22 hi hz0 hz1 hz2 rfl (by decide) _ m _ rfl (hown.alloc _) ⟨_, 0, none⟩ 1 _ [.string (s.extract f k)] rfl rfl ?c1 ?c2 (by omega) ?c3 ?c4 ?c5 _ rfl ?_)
        case c1 => exact cell_one_new _ _ _
        case c2 => intro u hu; simp at hu; subst hu; rfl
        case c3 => unfold maxLen; omega
        case c4 => omega
        case c5 => simp; omega
        intro gg cap1 w3 hown3 hgrow3 _ _
        have hbel3 : Below w.heap.size w w3 := (hbel.alloc hbs _).grown hgrow3 (by simp; omega) (fun y h => by cases h; exact hg.1)
        have hown4 : w3.ownsRow w.heap.size 9 1 (.slice (some ⟨gg, 0, none⟩) (m + 1) cap1) (m + 1) (((outs ++ [(s.data.toList.take k).drop f]).map toB).map Value.string) := by
          rw [List.map_append, List.map_append, List.map_singleton, List.map_singleton, ← ext_toB, List.map_map]
          exact hown3
        clear hown3 hgrow3 hown
        go_wp2
        go_roundw
        case rel => exact ⟨k + 1, k + 1, gg, cap1, m + 1, _, by omega, by omega, rfl, by go_num, by go_num, HC2, by omega, hown4, hbel3⟩
        case measure => simp [intOf]; omega
      · have hc' : ((s[k].toNat : Int) == 32) = false := by
          rw [beq_eq_false_iff_ne]
          intro e
          apply hc
          apply UInt8.toNat_inj.1
          have e2 : s[k].toNat = 32 := by omega
          rw [e2]; rfl
        have HC2 : Hid (Cut 32 s (k + 1) f outs ∧ outs.length = m) := ⟨cut_miss HC.out.1 hlt hf hc, HC.out.2⟩
        clear hc
        go_wp2
        go_roundw
        case rel => exact ⟨k + 1, f, g, cp, m, outs, by omega, by omega, rfl, rfl, by go_num, HC2, by omega, hown, hbel⟩
        case measure => simp [intOf]; omega
    · have e : k = s.size := by omega
      subst e
      have HE : Hid (pcsB 32 s = outs.map toB ++ [s.extract f s.size] ∧ (pcsB 32 s).length = m + 1) := by
        have h := cut_end HC.out.1
        exact ⟨h, by rw [h]; simp [HC.out.2]⟩
      go_wp2_with (at_builtin; refine wpList_append_lies _ rfl _ _ 22 rfl w.heap.size 9 i0 (.string ByteArray.empty) 1 16 Tryd.underlying22 hi hz0 hz1 hz2 rfl (by decide) _ m _ rfl (hown.alloc _) ⟨_, 0, none⟩ 1 _ [.string (s.extract f s.size)] rfl rfl ?c1 ?c2 (by omega) ?c3 ?c4 ?c5 _ rfl ?_)
      case c1 => exact cell_one_new _ _ _
      case c2 => intro u hu; simp at hu; subst hu; rfl
      case c3 => unfold maxLen; omega
      case c4 => omega
      case c5 => simp; omega
      intro gg cap1 w3 hown3 hgrow3 _ _
      have hbel3 : Below w.heap.size w w3 := (hbel.alloc hbs _).grown hgrow3 (by simp; omega) (fun y h => by cases h; exact hg.1)
      clear hgrow3 hown
      go_wp2
      go_ret
      refine ⟨gg, cap1, by rw [HE.out.2]; rfl, ?_, hbel3⟩
      rw [HE.out.2, HE.out.1, List.map_append, List.map_map]
      exact hown3

set_option maxRecDepth 100000 in
set_option maxHeartbeats 1000000 in
theorem specLines_any (s : ByteArray) (w : World) (hn : s.size ≤ 1048576) :
    Calls Tryd.prog 10 #[.string s] w fun e w' => ∃ g cp : Nat, e = .returned (.slice (some ⟨g, 0, none⟩) (linB 10 s).length cp) ∧
      w'.ownsRow w.heap.size 9 1 (.slice (some ⟨g, 0, none⟩) (linB 10 s).length cp) (linB 10 s).length ((linB 10 s).map Value.string) ∧ Below w.heap.size w w' := by
  obtain ⟨i0, hi, hz0, hz1, hz2⟩ := info_parts Tryd.infoS
  have hown0 := World.ownsRow_lit (base := w.heap.size) (e := 9) (size := 1) w #[] 0 (Nat.le_refl _) (Nat.zero_le _) rfl
  go_enter Tryd.func10, Tryd.ntmps10
  go_wp2
  go_loopw [3, 4, 5] (fun v fr i wr => ∃ (k f g cp m : Nat) (outs : List (List UInt8)), k ≤ s.size ∧ f ≤ k ∧ v = .slice (some ⟨g, 0, none⟩) m cp ∧ fr = .int .i64 f ∧ i = .int .i64 k ∧ Hid (Cut 10 s k f outs ∧ outs.length = m) ∧ m ≤ k ∧
      wr.ownsRow w.heap.size 9 1 (.slice (some ⟨g, 0, none⟩) m cp) m ((outs.map toB).map Value.string) ∧ Below w.heap.size w wr)
    (fun _ _ i _ => s.size - (intOf i).toNat)
  case atStart => exact ⟨0, 0, _, 0, 0, [], Nat.zero_le _, Nat.zero_le _, rfl, rfl, rfl, ⟨cut_zero _ _, rfl⟩, Nat.zero_le _, hown0, (Below.refl _ _).alloc (Nat.le_refl _) _⟩
  case round =>
    obtain ⟨k, f, g, cp, m, outs, hk, hf, rfl, rfl, rfl, HC, hm, hown, hbel⟩ := hrel
    have hbs := hbel.size
    have hg := hown.lt g rfl
    by_cases hlt : k < s.size
    · have hlt' : (k : Int) < (s.size : Int) := by omega
      by_cases hc : s[k] = 10
      · have hc' : ((s[k].toNat : Int) == 10) = true := by rw [hc]; rfl
        have HC2 : Hid (Cut 10 s (k + 1) (k + 1) (outs ++ [(s.data.toList.take k).drop f]) ∧ (outs ++ [(s.data.toList.take k).drop f]).length = m + 1) := ⟨cut_hit HC.out.1 hlt hc, by rw [List.length_append, HC.out.2]; rfl⟩
        obtain ⟨T, hT⟩ : ∃ T, T = s.extract f k := ⟨_, rfl⟩
        have HT : Hid (T = s.extract f k) := hT
        clear hT hc
        go_wp2_with (at_builtin; refine wpList_append_lies _ rfl _ _ 22 rfl w.heap.size 9 i0 (.string ByteArray.empty) 1 16 Tryd.underlying22 hi hz0 hz1 hz2 rfl (by decide) _ m _ rfl (hown.alloc _) ⟨_, 0, none⟩ 1 _ [.string (s.extract f k)] rfl rfl ?c1 ?c2 (by omega) ?c3 ?c4 ?c5 _ rfl ?_)
        case c1 => exact cell_one_new _ _ _
        case c2 => intro u hu; simp at hu; subst hu; rfl
        case c3 => unfold maxLen; omega
        case c4 => omega
        case c5 => simp; omega
        intro gg cap1 w3 hown3 hgrow3 _ _
        have hbel3 : Below w.heap.size w w3 := (hbel.alloc hbs _).grown hgrow3 (by simp; omega) (fun y h => by cases h; exact hg.1)
        have hown4 : w3.ownsRow w.heap.size 9 1 (.slice (some ⟨gg, 0, none⟩) (m + 1) cap1) (m + 1) (((outs ++ [(s.data.toList.take k).drop f]).map toB).map Value.string) := by
          rw [List.map_append, List.map_append, List.map_singleton, List.map_singleton, ← ext_toB, List.map_map]
          exact hown3
        clear hown3 hgrow3 hown
        go_wp2
        go_roundw
        case rel => exact ⟨k + 1, k + 1, gg, cap1, m + 1, _, by omega, by omega, rfl, by go_num, by go_num, HC2, by omega, hown4, hbel3⟩
        case measure => simp [intOf]; omega
      · have hc' : ((s[k].toNat : Int) == 10) = false := by
          rw [beq_eq_false_iff_ne]
          intro e
          apply hc
          apply UInt8.toNat_inj.1
          have e2 : s[k].toNat = 10 := by omega
          rw [e2]; rfl
        have HC2 : Hid (Cut 10 s (k + 1) f outs ∧ outs.length = m) := ⟨cut_miss HC.out.1 hlt hf hc, HC.out.2⟩
        clear hc
        go_wp2
        go_roundw
        case rel => exact ⟨k + 1, f, g, cp, m, outs, by omega, by omega, rfl, rfl, by go_num, HC2, by omega, hown, hbel⟩
        case measure => simp [intOf]; omega
    · have e : k = s.size := by omega
      subst e
      have HE : Hid (pcsB 10 s = outs.map toB ++ [s.extract f s.size] ∧ (s.extract f s.size).size = s.size - f) := by
        exact ⟨cut_end HC.out.1, by rw [ByteArray.size_extract]; omega⟩
      by_cases hfl : f < s.size
      · have hfl' : (f : Int) < (s.size : Int) := by omega
        have HL : Hid (linB 10 s = outs.map toB ++ [s.extract f s.size] ∧ (linB 10 s).length = m + 1) := by
          have h1 : linB 10 s = outs.map toB ++ [s.extract f s.size] := by
            unfold linB
            rw [HE.out.1, List.getLastD_concat, HE.out.2, if_neg (by omega)]
          exact ⟨h1, by rw [h1]; simp [HC.out.2]⟩
        go_wp2_with (at_builtin; refine wpList_append_lies _ rfl _ _ 22 rfl w.heap.size 9 i0 (.string ByteArray.empty) 1 16 Tryd.underlying22 hi hz0 hz1 hz2 rfl (by decide) _ m _ rfl (hown.alloc _) ⟨_, 0, none⟩ 1 _ [.string (s.extract f s.size)] rfl rfl ?c1 ?c2 (by omega) ?c3 ?c4 ?c5 _ rfl ?_)
        case c1 => exact cell_one_new _ _ _
        case c2 => intro u hu; simp at hu; subst hu; rfl
        case c3 => unfold maxLen; omega
        case c4 => omega
        case c5 => simp; omega
        intro gg cap1 w3 hown3 hgrow3 _ _
        have hbel3 : Below w.heap.size w w3 := (hbel.alloc hbs _).grown hgrow3 (by simp; omega) (fun y h => by cases h; exact hg.1)
        clear hgrow3 hown
        go_wp2
        go_ret
        refine ⟨gg, cap1, by rw [HL.out.2]; rfl, ?_, hbel3⟩
        rw [HL.out.2, HL.out.1, List.map_append, List.map_map]
        exact hown3
      · have hfl' : ¬ (f : Int) < (s.size : Int) := by omega
        have HL : Hid (linB 10 s = outs.map toB ∧ (linB 10 s).length = m) := by
          have h1 : linB 10 s = outs.map toB := by
            unfold linB
            rw [HE.out.1, List.getLastD_concat, HE.out.2, if_pos (by omega), List.dropLast_concat]
          exact ⟨h1, by rw [h1]; simp [HC.out.2]⟩
        go_wp2
        go_ret
        refine ⟨g, cp, by rw [HL.out.2]; rfl, ?_, hbel⟩
        rw [HL.out.2, HL.out.1]
        exact hown

end Go.Proofs.YtmikibekioekmalDoor
