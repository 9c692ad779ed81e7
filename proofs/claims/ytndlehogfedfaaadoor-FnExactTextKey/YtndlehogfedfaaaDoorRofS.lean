/-
  RunesOf, the model's.
-/
import Derived.Test.YtndlehogfedfaaaDoorRn
import Derived.Test.YtndlehogfedfaaaDoorIMarks
import Derived.Deep.AppendLies
namespace Go.Proofs.YtndlehogfedfaaaDoor
open Go.RowKit
set_option linter.unusedVariables false

/-- RunesOf takes s. -/
def rofOk (s : ByteArray) : Prop := s.size ≤ 65536 ∧ Lib.validD s.data.toList = true

theorem below_bytesWorld (w : World) (s : ByteArray) : Below w.heap.size w (Lib.bytesWorld w 5 s) := by
  have h0 : Below w.heap.size w (w.drew.alloc (.cells (Lib.bytesCells w 5 s) 5)) := ((Below.refl w.heap.size w).drew).alloc (Nat.le_refl _) _
  refine ⟨h0.os, h0.tape, h0.output, ?_, fun k hk => Lib.bytesWorld_at_old w 5 s k hk⟩
  rw [Lib.bytesWorld_size]; omega

theorem rd_bytesWorld (w : World) (s : ByteArray) : Rd (Lib.bytesWorld w 5 s) (some ⟨w.heap.size, 0, none⟩) (numsS s) := by
  refine ⟨numsS_bd s, .inr ⟨w.heap.size, 0, rfl, by rw [Lib.bytesWorld_size]; omega, fun i hi => ?_⟩⟩
  rw [numsS_len] at hi
  rw [Nat.zero_add, Lib.bytesWorld_cell w 5 s i hi]
  have h1 : i < s.data.toList.length := by simpa using hi
  simp [numsS, List.getElem?_map, List.getElem?_eq_getElem h1]

set_option maxRecDepth 100000 in
set_option maxHeartbeats 2000000 in
theorem specRof_in (s : ByteArray) (w : World) (hn : s.size ≤ 65536) :
    Calls Tryd.prog 22 #[.string s] w fun e w' => Below w.heap.size w w' ∧
      ((Lib.validD s.data.toList = false ∧ e = .returned (.tuple #[.slice none 0 0, .bool false])) ∨
       (Lib.validD s.data.toList = true ∧ ∃ g c, e = .returned (.tuple #[.slice (some ⟨g, 0, none⟩) (runes s).length c, .bool true]) ∧ w'.ownsRow w.heap.size 3 1 (.slice (some ⟨g, 0, none⟩) (runes s).length c) (runes s).length ((runes s).map (Value.int .i64)))) := by
  obtain ⟨i0, hi, hz0, hz1, hz2⟩ := info_parts Tryd.infoI
  have hlt : ¬ (65536 : Int) < (s.size : Int) := by omega
  have hcv := Lib.run_convert_string_bytes (P := Tryd.prog) w 9 32 5 s Tryd.underlying9 Tryd.underlying32 Tryd.underlying5
  obtain ⟨cap, hcap⟩ : ∃ cap, cap = grownCap w s.size 0 5 := ⟨_, rfl⟩
  obtain ⟨W1, hW1⟩ : ∃ W1, W1 = Lib.bytesWorld w 5 s := ⟨_, rfl⟩
  obtain ⟨B, hB⟩ : ∃ B, B = w.heap.size := ⟨_, rfl⟩
  have c1 : s.size ≤ cap := by rw [hcap]; exact grownCap_ge _ _ _ _
  have c2 : cap ≤ maxLen := by rw [hcap]; exact grownCap_le_maxLen _ _ _ _ (by unfold maxLen; omega)
  have hbW : Below w.heap.size w W1 := by rw [hW1]; exact below_bytesWorld w s
  have hrd : Rd W1 (some ⟨B, 0, none⟩) (numsS s) := by rw [hW1, hB]; exact rd_bytesWorld w s
  rw [← hcap, ← hW1, ← hB] at hcv
  have hown0 := World.ownsRow_lit (base := W1.heap.size) (e := 3) (size := 1) W1 #[] 0 (Nat.le_refl _) (Nat.zero_le _) rfl
  have HB : Hid (B = _) := hB
  clear hcap hW1 hB
  go_enter Tryd.func22, Tryd.ntmps22
  go_wp2
  go_loopw [5, 6] (fun v i wr => ∃ (A f g c : Nat) (xs : List Int), A ≤ 65540 ∧ v = .slice (some ⟨g, 0, none⟩) xs.length c ∧ i = .int .i64 A ∧ wr.ownsRow W1.heap.size 3 1 (.slice (some ⟨g, 0, none⟩) xs.length c) xs.length (xs.map (Value.int .i64)) ∧ Below W1.heap.size W1 wr ∧
      Hid (xs ++ rn s f A = runes s ∧ s.size ≤ A + f ∧ Lib.validD (s.data.toList.drop A) = Lib.validD s.data.toList) ∧ xs.length ≤ A)
    (fun _ i _ => s.size - (intOf i).toNat)
  case atStart => exact ⟨0, s.size, _, 0, [], by omega, rfl, rfl, hown0, (Below.refl _ _).alloc (Nat.le_refl _) _, ⟨rfl, by omega, rfl⟩, Nat.le_refl _⟩
  case round =>
    obtain ⟨A, f, g, c, xs, hA, rfl, rfl, hown, hbel, hx, hxl⟩ := hrel
    by_cases hAl : A < s.size
    · have hw := dec_width s A hAl
      have hr1 := dec_rune s A
      have E : rra (numsS s) (A : Int) = goAns (Utf8.decode s A) := by
        unfold rra
        rw [numsS_len, if_neg (by omega)]
        exact rrd_decode s A hAl
      have HV := valid_step s A hAl
      obtain ⟨f', hf1, hf2⟩ := rn_step s f A hAl hx.out.2.1
      obtain ⟨⟨d1, d2⟩, hd⟩ : ∃ d, d = Utf8.decode s A := ⟨_, rfl⟩
      rw [← hd] at hw hr1 E HV hf1 hf2
      simp only at hw hr1 HV hf1 hf2
      clear hd
      by_cases hbad : d1 = 65533 ∧ d2 = 1
      · have E2 : Hid (rra (numsS s) (A : Int) = (0, 0)) := by show rra _ _ = _; rw [E]; simp only [goAns]; rw [if_pos (by omega)]
        have V : Lib.validD s.data.toList = false := by rw [← hx.out.2.2, HV, if_pos hbad]
        have HVV : Hid (_ = false) := V
        clear V E HV hf1 hf2 hbad
        go_wp2_with fail
        refine (specRrd_any _ s.size cap (numsS s) A wr (numsS_len s) (hrd.later hbel) (by omega) c1 c2).mono ?_
        rintro e w2 ⟨rfl, hb2⟩
        rw [E2.out]
        have hbel2 := hbel.trans (hb2.mono hbel.size)
        go_wp2
        go_ret2
        exact ⟨hbW.trans (hbel2.mono hbW.size), .inl ⟨HVV.out, rfl⟩⟩
      · have E2 : Hid (rra (numsS s) (A : Int) = ((d1 : Int), (d2 : Int))) := by show rra _ _ = _; rw [E]; simp only [goAns]; rw [if_neg (by omega)]
        have HX : Hid ((xs ++ [(d1 : Int)]) ++ rn s f' (A + d2) = runes s ∧ s.size ≤ A + d2 + f' ∧ Lib.validD (s.data.toList.drop (A + d2)) = Lib.validD s.data.toList) := by
          refine ⟨?_, hf2, ?_⟩
          · rw [← hx.out.1, hf1]; simp
          · rw [← hx.out.2.2, HV, if_neg hbad]
        clear E HV hf1 hf2 hbad hx
        have hne : ((d2 : Int) == 0) = false := by simp; omega
        obtain ⟨m, hm⟩ : ∃ m, m = xs.length := ⟨_, rfl⟩
        have HM : Hid (m = _) := hm
        rw [← hm] at hown hxl ⊢
        clear hm
        go_wp2_with fail
        refine (specRrd_any _ s.size cap (numsS s) A wr (numsS_len s) (hrd.later hbel) (by omega) c1 c2).mono ?_
        rintro e w2 ⟨rfl, hb2⟩
        rw [E2.out]
        have hbel2 := hbel.trans (hb2.mono hbel.size)
        have hown2 := own_later hown hb2
        have hbs := hbel2.size
        have hg := hown2.lt g rfl
        go_wp2_with (at_builtin; refine wpList_append_lies _ rfl _ _ 38 rfl W1.heap.size 3 i0 (.int .i64 0) 1 8 Tryd.underlying38 hi hz0 hz1 hz2 rfl (by decide) _ m _ rfl (hown2.alloc _) ⟨_, 0, none⟩ 1 _ [.int .i64 (d1 : Int)] rfl rfl ?c1 ?c2 (by omega) ?c3 ?c4 ?c5 _ rfl ?_)
        case c1 => exact cell_one_new _ _ _
        case c2 => intro u hu; simp at hu; subst hu; rfl
        case c3 => unfold maxLen; omega
        case c4 => omega
        case c5 => simp; omega
        intro gg cap1 w3 hown3 hgrow3 _ _
        have hbel3 : Below W1.heap.size W1 w3 := (hbel2.alloc hbs _).grown hgrow3 (by simp; omega) (fun y h => by cases h; exact hg.1)
        have hl1 : (xs ++ [(d1 : Int)]).length = m + 1 := by simp [HM.out]
        have hown4 : w3.ownsRow W1.heap.size 3 1 (.slice (some ⟨gg, 0, none⟩) (xs ++ [(d1 : Int)]).length cap1) (xs ++ [(d1 : Int)]).length ((xs ++ [(d1 : Int)]).map (Value.int .i64)) := by
          rw [hl1, List.map_append]
          exact hown3
        have HL1 : Hid (_ = m + 1) := hl1
        clear hown3 hgrow3 hown hown2 hl1
        go_wp2
        go_roundw
        case rel => exact ⟨A + d2, f', gg, cap1, xs ++ [(d1 : Int)], by omega, by rw [HL1.out], by go_num, hown4, hbel3, HX, by rw [HL1.out]; omega⟩
        case measure => simp [intOf]; omega
    · have V : Lib.validD s.data.toList = true := by
        rw [← hx.out.2.2, List.drop_eq_nil_of_le (by simp; omega)]; rfl
      have HR : Hid (xs = runes s) := by
        have := hx.out.1
        rw [rn_end s f A hAl, List.append_nil] at this
        exact this
      have HVV : Hid (_ = true) := V
      clear V hx
      go_wp2
      go_ret2
      refine ⟨hbW.trans (hbel.mono hbW.size), .inr ⟨HVV.out, g, c, ?_, ?_⟩⟩
      · rw [← HR.out]; rfl
      · rw [← HR.out]
        exact own_base hown (by have := hown.lt g rfl; have := hbW.size; omega)

end Go.Proofs.YtndlehogfedfaaaDoor
