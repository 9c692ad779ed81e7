/-
  frameSum and FrameBytes of the program. By program (frgen.py).
-/
import Derived.Test.YtbjmjmammpgbmaaEnt
import Derived.Test.YtbjmjmammpgbmaaFrP
import Derived.Test.YtbjmjmammpgbmaaPutV
import Derived.Test.YtbjmjmammpgbmaaCrcI
import Derived.Test.YtbjmjmammpgbmaaClone
import Derived.Lib.ConvBytes
import Derived.Deep.RegionHeld3
namespace Go.Proofs.Ytbjmjmammpgbmaa
open Go.RowKit
set_option linter.unusedVariables false
set_option linter.unusedSimpArgs false

theorem below_bytes (w : World) (s : ByteArray) : Below w.heap.size w (Lib.bytesWorld w 5 s) :=
  ⟨rfl, rfl, rfl, by rw [Lib.bytesWorld_size]; omega, fun j hj => Lib.bytesWorld_at_old w 5 s j hj⟩

theorem src_text (w : World) (s : ByteArray) (c : Nat) : Src (Lib.bytesWorld w 5 s) (.slice (some ⟨w.heap.size, 0, none⟩) s.size c) s.size ((sB s).map (Value.int .u8)) := by
  refine .inr ⟨_, c, rfl, fun j u hu => ?_⟩
  have hj : j < s.size := by
    have := (List.getElem?_eq_some_iff.1 hu).1
    rw [List.length_map, sB_len] at this
    exact this
  have e : (⟨w.heap.size, 0, none⟩ : Addr).add j = ⟨w.heap.size, j, none⟩ := by cases j <;> simp [Addr.add]
  rw [e, Lib.bytesWorld_cell w 5 s j hj, ← hu]
  have hj' : j < s.data.toList.length := by rw [Array.length_toList]; exact hj
  simp [sB, List.getD_eq_getElem?_getD, List.getElem?_eq_getElem hj']

set_option maxRecDepth 100000 in
set_option maxHeartbeats 2000000 in
theorem frameSum_any (a : Option Addr) (n c : Nat) (zs : List Int) (y : Value) (m : Nat) (ts : List Int) (w : World) (hl : Hid (zs.length = n)) (hr : Rd w a zs) (hs : Src w y m (ts.map (Value.int .u8))) (htl : Hid (ts.length = m))
    (hbt : Hid (Byt ts)) (hn0 : 0 < n) (hn : n + m ≤ 1048576) :
    Calls Try.prog 31 #[.slice a n c, y] w fun e w' => e = .returned (.int .i64 (crcI (zs ++ ts))) ∧ Below w.heap.size w w' := by
  obtain ⟨i0, hi, hz0, hz1, hz2⟩ := info_parts Try.infoB
  have hbz : Hid (Byt zs) := hr.1
  obtain ⟨C, hC⟩ : ∃ C, C = crcI (zs ++ ts) := ⟨_, rfl⟩
  have hcl : (zs ++ ts).length = n + m := by rw [List.length_append, hl.out, htl.out]
  have qC : Hid (∀ w' v, w'.ownsRow 0 5 1 v (n + m) (zs.map (Value.int .u8) ++ ts.map (Value.int .u8)) → Calls Try.prog 43 #[v] w' fun e w'' => e = .returned (.int .i64 C) ∧ Below w'.heap.size w' w'') := fun w' v ho => by
    obtain ⟨g, cap, rfl, _⟩ := own_form ho (by omega)
    rw [← List.map_append] at ho
    refine (implCrc_any _ _ cap _ w' hcl (rd_own hcl (byt_append hbz.out hbt.out) ho) (by omega)).mono ?_
    rintro e w'' ⟨rfl, hb⟩
    exact ⟨by rw [hC, crcI, hcl], hb⟩
  have qK : Hid (Calls Try.prog 44 #[.slice a n c] w fun e w' => ∃ v, e = .returned v ∧ w'.ownsRow w.heap.size 5 1 v n (zs.map (Value.int .u8)) ∧ Below w.heap.size w w') := clone_any a n c zs w hl hr (by omega)
  have HS : Hid (Src w y m (ts.map (Value.int .u8))) := hs
  rw [← hC]
  clear hr hs hC hcl
  go_enter Try.func31, Try.ntmps31
  go_wp2_with fail
  refine qK.out.mono ?_
  rintro e w1 ⟨v1, rfl, o1, b1⟩
  have b1s := b1.size
  go_wp2_with (at_builtin; refine wpList_append_src rfl _ _ 22 rfl w.heap.size 5 i0 (.int .u8 0) 1 1 Try.underlying22 hi hz0 hz1 hz2 rfl (by decide) v1 n (zs.map (Value.int .u8)) rfl o1 y m (ts.map (Value.int .u8)) rfl ?c0 ?c1 ?c2 ?c3 ?c4 ?c5 ?_)
  case c0 => rw [List.length_map, htl.out]; omega
  case c1 => exact src_later HS.out b1
  case c2 => exact ints_oneCell _ _
  case c3 => unfold maxLen; omega
  case c4 => omega
  case c5 => exact b1s
  intro v2 w2 o2 gr2
  have b2 : Below w.heap.size w w2 := b1.grown gr2 b1s (fun k h => (o1.lt k h).1)
  clear gr2 o1
  go_wp2_with fail
  refine (qC.out _ _ (own_base0 o2)).mono ?_
  rintro e w3 ⟨rfl, hb3⟩
  have b3 := b2.trans (hb3.mono b2.size)
  clear o2
  go_wp2
  go_ret
  exact ⟨rfl, b3⟩

set_option maxRecDepth 100000 in
set_option maxHeartbeats 2000000 in
theorem implFrame_no (x0 : Int) (x1 : ByteArray) (w : World) (h1 : x1.size ≤ maxLen) (hB : entB x0 x1.size = false) :
    Calls Try.prog 13 #[.agg #[.int .i64 x0, .string x1]] w fun e w' => e = .returned (.tuple #[.slice none 0 0, .bool false]) ∧ Below w.heap.size w w' := by
  have qE : Hid (∀ w', Calls Try.prog 28 #[.agg #[.int .i64 x0, .string x1]] w' fun e w'' => e = .returned (.bool false) ∧ Below w'.heap.size w' w'') := fun w' => by rw [← hB]; exact implEnt_any _ _ w' h1
  clear hB
  obtain ⟨W0, hW0⟩ : ∃ W0, W0 = w.alloc (.cells #[.int .i64 x0, .string x1] 33) := ⟨_, rfl⟩
  have bW0 : Below w.heap.size w W0 := by rw [hW0]; exact (Below.refl _ _).alloc (Nat.le_refl _) _
  have hbox : W0.heap[w.heap.size]? = some (.cells #[.int .i64 x0, .string x1] 33 (0, 0)) := by rw [hW0]; exact heap_alloc_new w _
  have zlt0 : w.heap.size < W0.heap.size := by rw [hW0]; simp
  have HW0 : Hid (W0 = w.alloc (.cells #[.int .i64 x0, .string x1] 33)) := hW0
  have BX : Hid (∀ w', Below W0.heap.size W0 w' → w'.cell? ⟨w.heap.size, 0, none⟩ = some (.int .i64 x0) ∧ w'.cell? ⟨w.heap.size, 1, none⟩ = some (.string x1)) := fun w' h' => by
    have i := (h'.block _ zlt0).trans hbox
    exact ⟨box_cell i rfl, box_cell i rfl⟩
  obtain ⟨v0, v1⟩ := BX.out W0 (Below.refl _ _)
  clear hW0 hbox
  go_enter Try.func13, Try.ntmps13
  go_wp2_with fail
  rw [← HW0.out]
  refine (qE.out _).mono ?_
  rintro e w1 ⟨rfl, hb1⟩
  have b1 := bW0.trans (hb1.mono bW0.size)
  clear v0 v1
  go_wp2
  go_ret2
  exact ⟨rfl, b1⟩

set_option maxRecDepth 100000 in
set_option maxHeartbeats 4000000 in
theorem implFrame_yes (x0 : Int) (x1 : ByteArray) (w : World) (hB : entB x0 x1.size = true) :
    Calls Try.prog 13 #[.agg #[.int .i64 x0, .string x1]] w fun e w' => ∃ v, e = .returned (.tuple #[v, .bool true]) ∧
      w'.ownsRow w.heap.size 5 1 v (10 + x1.size) ((frameL x0 (sB x1)).map (Value.int .u8)) ∧ Below w.heap.size w w' := by
  obtain ⟨i0, hi, hz0, hz1, hz2⟩ := info_parts Try.infoB
  have hb := (entB_iff _ _).1 hB
  have hlen : x1.size ≤ 1000 := hb.2.2.2
  have qE : Hid (∀ w', Calls Try.prog 28 #[.agg #[.int .i64 x0, .string x1]] w' fun e w'' => e = .returned (.bool true) ∧ Below w'.heap.size w' w'') := fun w' => by rw [← hB]; exact implEnt_any _ _ w' (by unfold maxLen; omega)
  have q2 : Hid (∀ w', Calls Try.prog 30 #[.slice none 0 0, .int .i64 (x1.size : Int), .int .i64 2] w' fun e w'' => ∃ v, e = .returned (.tuple #[v, .bool true]) ∧ w''.ownsRow w'.heap.size 5 1 v 2 ((pdig x1.size 2 2).map (Value.int .u8)) ∧ Below w'.heap.size w' w'') := fun w' =>
    implPut_src none 0 0 [] (x1.size : Int) 2 w' rfl (src_nil _) (by omega) (by omega) (by omega) (by simp [pw]; omega) (by omega)
  have q3 : Hid (∀ w' g c, w'.ownsRow 0 5 1 (.slice (some ⟨g, 0, none⟩) 2 c) 2 ((pdig x1.size 2 2).map (Value.int .u8)) → Calls Try.prog 30 #[.slice (some ⟨g, 0, none⟩) 2 c, .int .i64 x0, .int .i64 4] w' fun e w'' => ∃ v, e = .returned (.tuple #[v, .bool true]) ∧ w''.ownsRow w'.heap.size 5 1 v 6 ((headL x0 x1.size).map (Value.int .u8)) ∧ Below w'.heap.size w' w'') := fun w' g c ho =>
    implPut_src (some ⟨g, 0, none⟩) 2 c (pdig x1.size 2 2) x0 4 w' (pdig_len _ _ _) (src_own ho) (by omega) (by omega) (by omega) (by simp [pw]; omega) (by omega)
  obtain ⟨C, hC⟩ : ∃ C, C = crcI (headL x0 x1.size ++ sB x1) := ⟨_, rfl⟩
  have hCb := crcI_bd (headL x0 x1.size ++ sB x1) (byt_append (byt_headL _ _) (byt_sB _))
  rw [← hC] at hCb
  have qC : Hid (∀ w' g c y, w'.ownsRow 0 5 1 (.slice (some ⟨g, 0, none⟩) 6 c) 6 ((headL x0 x1.size).map (Value.int .u8)) → Src w' y x1.size ((sB x1).map (Value.int .u8)) → Calls Try.prog 31 #[.slice (some ⟨g, 0, none⟩) 6 c, y] w' fun e w'' => e = .returned (.int .i64 C) ∧ Below w'.heap.size w' w'') := fun w' g c y ho hs => by
    rw [hC]
    exact frameSum_any _ 6 c (headL x0 x1.size) y x1.size (sB x1) w' (headL_len _ _) (rd_own (headL_len _ _) (byt_headL _ _) ho) hs (sB_len _) (byt_sB _) (by omega) (by omega)
  have q5 : Hid (∀ w' g c, w'.ownsRow 0 5 1 (.slice (some ⟨g, 0, none⟩) 6 c) 6 ((headL x0 x1.size).map (Value.int .u8)) → Calls Try.prog 30 #[.slice (some ⟨g, 0, none⟩) 6 c, .int .i64 C, .int .i64 4] w' fun e w'' => ∃ v, e = .returned (.tuple #[v, .bool true]) ∧ w''.ownsRow w'.heap.size 5 1 v 10 ((headL x0 x1.size ++ pdig C 4 4).map (Value.int .u8)) ∧ Below w'.heap.size w' w'') := fun w' g c ho =>
    implPut_src (some ⟨g, 0, none⟩) 6 c (headL x0 x1.size) C 4 w' (headL_len _ _) (src_own ho) (by omega) (by omega) (by omega) (by simp [pw]; omega) (by omega)
  have hF : Hid ((frameL x0 (sB x1)).map (Value.int .u8) = (headL x0 x1.size ++ pdig C 4 4).map (Value.int .u8) ++ (sB x1).map (Value.int .u8)) := by
    show _ = _
    rw [hC, ← List.map_append]
    unfold frameL
    rw [sB_len]
  obtain ⟨T, hT⟩ : ∃ T, T = (sB x1).map (Value.int .u8) := ⟨_, rfl⟩
  have hT1 : ∀ u ∈ T, u.oneCell' = true := by rw [hT]; exact ints_oneCell _ _
  have hTl : T.length = x1.size := by rw [hT, List.length_map, sB_len]
  have qT : Hid (∀ w' c, Src (Lib.bytesWorld w' 5 x1) (.slice (some ⟨w'.heap.size, 0, none⟩) x1.size c) x1.size T) := fun w' c => by rw [hT]; exact src_text w' x1 c
  have qB : Hid (∀ w', Below w'.heap.size w' (Lib.bytesWorld w' 5 x1)) := fun w' => below_bytes w' x1
  rw [← hT] at hF qC
  obtain ⟨H6, hH6⟩ : ∃ H, H = (headL x0 x1.size).map (Value.int .u8) := ⟨_, rfl⟩
  rw [← hH6] at q3 q5 qC
  clear hB hb hC hH6 hT
  obtain ⟨W0, hW0⟩ : ∃ W0, W0 = w.alloc (.cells #[.int .i64 x0, .string x1] 33) := ⟨_, rfl⟩
  have bW0 : Below w.heap.size w W0 := by rw [hW0]; exact (Below.refl _ _).alloc (Nat.le_refl _) _
  have hbox : W0.heap[w.heap.size]? = some (.cells #[.int .i64 x0, .string x1] 33 (0, 0)) := by rw [hW0]; exact heap_alloc_new w _
  have zlt0 : w.heap.size < W0.heap.size := by rw [hW0]; simp
  have HW0 : Hid (W0 = w.alloc (.cells #[.int .i64 x0, .string x1] 33)) := hW0
  have BX : Hid (∀ w', Below W0.heap.size W0 w' → w'.cell? ⟨w.heap.size, 0, none⟩ = some (.int .i64 x0) ∧ w'.cell? ⟨w.heap.size, 1, none⟩ = some (.string x1)) := fun w' h' => by
    have i := (h'.block _ zlt0).trans hbox
    exact ⟨box_cell i rfl, box_cell i rfl⟩
  obtain ⟨v0, v1⟩ := BX.out W0 (Below.refl _ _)
  clear hW0 hbox
  go_enter Try.func13, Try.ntmps13
  go_wp2_with fail
  rw [← HW0.out]
  refine (qE.out _).mono ?_
  rintro e w1 ⟨rfl, d1⟩
  obtain ⟨y0, y1⟩ := BX.out w1 d1
  clear v0 v1
  have hcv := Lib.run_convert_string_bytes (P := Try.prog) w1 9 22 5 x1 Try.underlying9 Try.underlying22 Try.underlying5
  obtain ⟨cp, hcp⟩ : ∃ cp, cp = grownCap w1 x1.size 0 5 := ⟨_, rfl⟩
  obtain ⟨wb, hwb⟩ : ∃ wb, wb = Lib.bytesWorld w1 5 x1 := ⟨_, rfl⟩
  rw [← hcp, ← hwb] at hcv
  have sb : Src wb (.slice (some ⟨w1.heap.size, 0, none⟩) x1.size cp) x1.size T := by rw [hwb]; exact qT.out w1 cp
  have hbb : Below w1.heap.size w1 wb := by rw [hwb]; exact qB.out w1
  clear hcp hwb
  obtain ⟨tx, htx⟩ : ∃ tx, tx = Value.slice (some ⟨w1.heap.size, 0, none⟩) x1.size cp := ⟨_, rfl⟩
  have db := d1.trans (hbb.mono d1.size)
  have SB : Hid (Src wb (.slice (some ⟨w1.heap.size, 0, none⟩) x1.size cp) x1.size T) := sb
  clear htx sb
  go_wp2_with fail
  clear hcv y0 y1
  refine (q2.out _).mono ?_
  rintro e w2 ⟨v2, rfl, o2, hb2⟩
  have bb2 := hb2
  have d2 := db.trans (hb2.mono db.size)
  obtain ⟨g2, c2, rfl, hg2, hl2⟩ := own_form o2 (by omega)
  have o2' := own_base o2 (Nat.zero_le _)
  clear hb2 o2 hg2 hl2
  obtain ⟨y0, y1⟩ := BX.out w2 d2
  go_wp2_with fail
  refine (q3.out _ _ _ o2').mono ?_
  rintro e w3 ⟨v3, rfl, o3, hb3⟩
  have bb3 := bb2.trans (hb3.mono bb2.size)
  have d3 := d2.trans (hb3.mono d2.size)
  obtain ⟨g3, c3, rfl, hg3, hl3⟩ := own_form o3 (by omega)
  have o3' := own_base o3 (Nat.zero_le _)
  have O3 : Hid (w3.ownsRow 0 5 1 (.slice (some ⟨g3, 0, none⟩) 6 c3) 6 H6) := o3'
  clear y0 y1 hb3 o2' o3 hg3 o3' bb2
  go_wp2_with fail
  refine (qC.out _ _ _ _ O3.out (src_later SB.out bb3)).mono ?_
  rintro e w4 ⟨rfl, hb4⟩
  have d4 := d3.trans (hb4.mono d3.size)
  have bb4 := bb3.trans (hb4.mono bb3.size)
  go_wp2_with fail
  refine (q5.out _ _ _ (own_later O3.out hb4)).mono ?_
  rintro e w5 ⟨v5, rfl, o5, hb5⟩
  have d5 := d4.trans (hb5.mono d4.size)
  have bb5 := bb4.trans (hb5.mono bb4.size)
  have hsz := (bW0.trans (d4.mono bW0.size)).size
  go_wp2_with (at_builtin; refine wpList_append_src rfl _ _ 22 rfl w4.heap.size 5 i0 (.int .u8 0) 1 1 Try.underlying22 hi hz0 hz1 hz2 rfl (by decide) v5 10 _ rfl o5 (.slice (some ⟨w1.heap.size, 0, none⟩) x1.size cp) x1.size T rfl ?c0 ?c1 ?c2 ?c3 ?c4 ?c5 ?_)
  case c0 => omega
  case c1 => exact src_later SB.out bb5
  case c2 => exact hT1
  case c3 => unfold maxLen; omega
  case c4 => omega
  case c5 => exact hb5.size
  intro v6 w6 o6 gr6
  have b5 : Below w.heap.size w w5 := bW0.trans (d5.mono bW0.size)
  have b6 : Below w.heap.size w w6 := b5.grown gr6 b5.size (fun k h => by have := (o5.lt k h).1; omega)
  have o6' : w6.ownsRow w4.heap.size 5 1 v6 (10 + x1.size) ((frameL x0 (sB x1)).map (Value.int .u8)) := by rw [hF.out]; simpa [List.append_assoc] using o6
  have o7 := own_lower o6' hsz
  clear gr6 o5 o6 o6'
  go_wp2
  go_ret2
  exact ⟨_, rfl, o7, b6⟩

end Go.Proofs.Ytbjmjmammpgbmaa
