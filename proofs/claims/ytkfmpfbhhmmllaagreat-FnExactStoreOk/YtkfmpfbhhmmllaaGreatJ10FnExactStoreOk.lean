/-
  Joined: FrS, Conv, RfC, RfL, RfS, RfIP, GetI, CrcI, FrI, NeedI, RiN, RiF3, RiF4.
-/
import Derived.Test.YtkfmpfbhhmmllaaGreatJ9FnExactStoreOk
import Derived.Deep.RegionHeld3
import Derived.Test.YtkfmpfbhhmmllaaGreatJ0FnExactStoreOk
import Derived.Laws.BytesArg
import Derived.Handy
import Derived.Test.YtkfmpfbhhmmllaaGreatJ4FnExactStoreOk
import Derived.Test.YtkfmpfbhhmmllaaGreatJ8FnExactStoreOk
import Derived.Lib.ConvBytes
/- FrS: FrameBytes of the model. By program (frgen.py). -/
namespace Go.Proofs.YtkfmpfbhhmmllaaGreat
open Go.RowKit
set_option linter.unusedVariables false
set_option maxRecDepth 100000
set_option linter.unusedSimpArgs false

set_option maxRecDepth 100000 in
set_option maxHeartbeats 2000000 in
theorem specFrame_no (x0 : Int) (x1 : ByteArray) (w : World) (h1 : x1.size ≤ maxLen) (hB : entB x0 x1.size = false) :
    Calls Tryz.prog 57 #[.agg #[.int .i64 x0, .string x1]] w fun e w' => e = .returned (.tuple #[.slice none 0 0, .bool false]) ∧ Below w.heap.size w w' := by
  have qE : Hid (∀ w', Calls Tryz.prog 53 #[.agg #[.int .i64 x0, .string x1]] w' fun e w'' => e = .returned (.bool false) ∧ Below w'.heap.size w' w'') := fun w' => by rw [← hB]; exact specEnt_any _ _ w' h1
  clear hB
  obtain ⟨W0, hW0⟩ : ∃ W0, W0 = w.alloc (.cells #[.int .i64 x0, .string x1] 71) := ⟨_, rfl⟩
  have bW0 : Below w.heap.size w W0 := by rw [hW0]; exact (Below.refl _ _).alloc (Nat.le_refl _) _
  have hbox : W0.heap[w.heap.size]? = some (.cells #[.int .i64 x0, .string x1] 71 (0, 0)) := by rw [hW0]; exact heap_alloc_new w _
  have zlt0 : w.heap.size < W0.heap.size := by rw [hW0]; simp
  have HW0 : Hid (W0 = w.alloc (.cells #[.int .i64 x0, .string x1] 71)) := hW0
  have BX : Hid (∀ w', Below W0.heap.size W0 w' → w'.cell? ⟨w.heap.size, 0, none⟩ = some (.int .i64 x0) ∧ w'.cell? ⟨w.heap.size, 1, none⟩ = some (.string x1)) := fun w' h' => by
    have i := (h'.block _ zlt0).trans hbox
    exact ⟨box_cell i rfl, box_cell i rfl⟩
  obtain ⟨v0, v1⟩ := BX.out W0 (Below.refl _ _)
  clear hW0 hbox
  go_enter Tryz.func57, Tryz.ntmps57
  go_wp2_with fail
  rw [← HW0.out]
  refine (qE.out _).mono ?_
  rintro e w1 ⟨rfl, hb1⟩
  have b1 := bW0.trans (hb1.mono bW0.size)
  clear v0 v1
  go_wp2
  go_ret2
  exact ⟨rfl, b1⟩

set_option maxRecDepth 100000 in
set_option maxHeartbeats 4000000 in
theorem specFrame_yes (x0 : Int) (x1 : ByteArray) (w : World) (hB : entB x0 x1.size = true) :
    Calls Tryz.prog 57 #[.agg #[.int .i64 x0, .string x1]] w fun e w' => ∃ v, e = .returned (.tuple #[v, .bool true]) ∧
      w'.ownsRow w.heap.size 5 1 v (10 + x1.size) ((frameL x0 (sB x1)).map (Value.int .u8)) ∧ Below w.heap.size w w' := by
  obtain ⟨i0, hi, hz0, hz1, hz2⟩ := info_parts Tryz.infoB
  have hb := (entB_iff _ _).1 hB
  have hlen : x1.size ≤ 1000 := hb.2.2.2
  have qE : Hid (∀ w', Calls Tryz.prog 53 #[.agg #[.int .i64 x0, .string x1]] w' fun e w'' => e = .returned (.bool true) ∧ Below w'.heap.size w' w'') := fun w' => by rw [← hB]; exact specEnt_any _ _ w' (by unfold maxLen; omega)
  have q2 : Hid (∀ w', Calls Tryz.prog 87 #[.slice none 0 0, .int .i64 (x1.size : Int), .int .i64 2] w' fun e w'' => ∃ v, e = .returned (.tuple #[v, .bool true]) ∧ w''.ownsRow w'.heap.size 5 1 v 2 ((pdig x1.size 2 2).map (Value.int .u8)) ∧ Below w'.heap.size w' w'') := fun w' =>
    specPut_src none 0 0 [] (x1.size : Int) 2 w' rfl (src_nil _) (by omega) (by omega) (by omega) (by simp [pw]; omega) (by omega)
  have q3 : Hid (∀ w' g c, w'.ownsRow 0 5 1 (.slice (some ⟨g, 0, none⟩) 2 c) 2 ((pdig x1.size 2 2).map (Value.int .u8)) → Calls Tryz.prog 87 #[.slice (some ⟨g, 0, none⟩) 2 c, .int .i64 x0, .int .i64 4] w' fun e w'' => ∃ v, e = .returned (.tuple #[v, .bool true]) ∧ w''.ownsRow w'.heap.size 5 1 v 6 ((headL x0 x1.size).map (Value.int .u8)) ∧ Below w'.heap.size w' w'') := fun w' g c ho =>
    specPut_src (some ⟨g, 0, none⟩) 2 c (pdig x1.size 2 2) x0 4 w' (pdig_len _ _ _) (src_own ho) (by omega) (by omega) (by omega) (by simp [pw]; omega) (by omega)
  obtain ⟨C, hC⟩ : ∃ C, C = crcI (headL x0 x1.size ++ sB x1) := ⟨_, rfl⟩
  have hCb := crcI_bd (headL x0 x1.size ++ sB x1) (byt_append (byt_headL _ _) (byt_sB _))
  rw [← hC] at hCb
  have hcl : (headL x0 x1.size ++ sB x1).length = 6 + x1.size := by rw [List.length_append, headL_len, sB_len]
  have qC : Hid (∀ w' v, w'.ownsRow 0 5 1 v (6 + x1.size) ((headL x0 x1.size ++ sB x1).map (Value.int .u8)) → Calls Tryz.prog 88 #[v] w' fun e w'' => e = .returned (.int .i64 C) ∧ w'' = w') := fun w' v ho => by
    obtain ⟨g, cap, rfl, _⟩ := own_form ho (by omega)
    refine (specCrc_any _ _ cap _ w' hcl (rd_own hcl (byt_append (byt_headL _ _) (byt_sB _)) ho) (by omega)).mono ?_
    rintro e w'' ⟨rfl, rfl⟩
    exact ⟨by rw [hC, crcI, hcl], rfl⟩
  have q5 : Hid (∀ w' g c, w'.ownsRow 0 5 1 (.slice (some ⟨g, 0, none⟩) 6 c) 6 ((headL x0 x1.size).map (Value.int .u8)) → Calls Tryz.prog 87 #[.slice (some ⟨g, 0, none⟩) 6 c, .int .i64 C, .int .i64 4] w' fun e w'' => ∃ v, e = .returned (.tuple #[v, .bool true]) ∧ w''.ownsRow w'.heap.size 5 1 v 10 ((headL x0 x1.size ++ pdig C 4 4).map (Value.int .u8)) ∧ Below w'.heap.size w' w'') := fun w' g c ho =>
    specPut_src (some ⟨g, 0, none⟩) 6 c (headL x0 x1.size) C 4 w' (headL_len _ _) (src_own ho) (by omega) (by omega) (by omega) (by simp [pw]; omega) (by omega)
  have hF : Hid ((frameL x0 (sB x1)).map (Value.int .u8) = (headL x0 x1.size ++ pdig C 4 4).map (Value.int .u8) ++ Lib.strCells x1) := by
    show _ = _
    rw [hC, sB_cells, ← List.map_append]
    unfold frameL
    rw [sB_len]
  obtain ⟨H6, hH6⟩ : ∃ H, H = (headL x0 x1.size).map (Value.int .u8) := ⟨_, rfl⟩
  have hH6l : H6.length = 6 := by rw [hH6, List.length_map, headL_len]
  have hH61 : ∀ u ∈ H6, u.oneCell' = true := by rw [hH6]; exact ints_oneCell _ _
  have hHc : Hid ((headL x0 x1.size ++ sB x1).map (Value.int .u8) = H6 ++ Lib.strCells x1) := by show _ = _; rw [hH6, sB_cells, ← List.map_append]
  rw [hHc.out] at qC
  rw [← hH6] at q3 q5
  have HF := hF
  clear hB hb hC hcl hHc hF hH6
  obtain ⟨W0, hW0⟩ : ∃ W0, W0 = w.alloc (.cells #[.int .i64 x0, .string x1] 71) := ⟨_, rfl⟩
  have bW0 : Below w.heap.size w W0 := by rw [hW0]; exact (Below.refl _ _).alloc (Nat.le_refl _) _
  have hbox : W0.heap[w.heap.size]? = some (.cells #[.int .i64 x0, .string x1] 71 (0, 0)) := by rw [hW0]; exact heap_alloc_new w _
  have zlt0 : w.heap.size < W0.heap.size := by rw [hW0]; simp
  have HW0 : Hid (W0 = w.alloc (.cells #[.int .i64 x0, .string x1] 71)) := hW0
  have BX : Hid (∀ w', Below W0.heap.size W0 w' → w'.cell? ⟨w.heap.size, 0, none⟩ = some (.int .i64 x0) ∧ w'.cell? ⟨w.heap.size, 1, none⟩ = some (.string x1)) := fun w' h' => by
    have i := (h'.block _ zlt0).trans hbox
    exact ⟨box_cell i rfl, box_cell i rfl⟩
  obtain ⟨v0, v1⟩ := BX.out W0 (Below.refl _ _)
  clear hW0 hbox
  go_enter Tryz.func57, Tryz.ntmps57
  go_wp2_with fail
  rw [← HW0.out]
  refine (qE.out _).mono ?_
  rintro e w1 ⟨rfl, d1⟩
  obtain ⟨y0, y1⟩ := BX.out w1 d1
  clear v0 v1
  go_wp2_with fail
  refine (q2.out _).mono ?_
  rintro e w2 ⟨v2, rfl, o2, hb2⟩
  have d2 := d1.trans (hb2.mono d1.size)
  obtain ⟨g2, c2, rfl, hg2, hl2⟩ := own_form o2 (by omega)
  have o2' := own_base o2 (Nat.zero_le _)
  clear y0 y1 hb2 o2 hg2 hl2
  obtain ⟨y0, y1⟩ := BX.out w2 d2
  go_wp2_with fail
  refine (q3.out _ _ _ o2').mono ?_
  rintro e w3 ⟨v3, rfl, o3, hb3⟩
  have d3 := d2.trans (hb3.mono d2.size)
  obtain ⟨g3, c3, rfl, hg3, hl3⟩ := own_form o3 (by omega)
  have o3' := own_base o3 (Nat.zero_le _)
  clear y0 y1 hb3 o2' o3 hg3
  obtain ⟨y0, y1⟩ := BX.out w3 d3
  have hm0 : (0 : Nat) ≤ maxLen := Nat.zero_le _
  have hown00 := World.ownsRow_lit (base := w3.drew.heap.size) (e := 5) (size := 1) w3.drew #[] 0 (Nat.le_refl _) hm0 rfl
  have bd3 : Below w3.heap.size w3 w3.drew := (Below.refl _ _).drew
  have bA3 : Below w3.heap.size w3 (w3.drew.alloc (.cells #[] 5)) := bd3.alloc (by simp) _
  have O3 : Hid (w3.ownsRow 0 5 1 (.slice (some ⟨g3, 0, none⟩) 6 c3) 6 H6) := o3'
  clear o3'
  go_wp2_with fail
  refine wp_region_held_drew (S := fun w' => w'.cell? ⟨w.heap.size, 1, none⟩ = some (.string x1)) (by kernel_rfl) y1 (fun hHeld => ?_)
  refine wpAnyH_take (i := 1) (v := .slice (some ⟨g3, 0, none⟩) 6 c3) rfl (by kernel_rfl) (by kernel_rfl) (by kernel_rfl) (fun _ _ _ h => h) (Or.inl ⟨by kernel_rfl, ?_⟩) (by assumption) ?_
  · intro w9 hSw; (try dsimp only at hSw); go_simp
  simp only [Act.put, List.getElem_toArray, List.getElem_cons_succ, List.getElem_cons_zero, List.setIfInBounds_toArray, List.set_cons_zero, List.set_cons_succ]
  refine wpAnyH_take (i := 3) (v := .pointer (some ⟨w.heap.size, 1, none⟩)) rfl (by kernel_rfl) (by kernel_rfl) (by kernel_rfl) (fun _ _ _ h => h) (Or.inl ⟨by kernel_rfl, ?_⟩) (by assumption) ?_
  · intro w9 hSw; (try dsimp only at hSw); go_simp
  simp only [Act.put, List.getElem_toArray, List.getElem_cons_succ, List.getElem_cons_zero, List.setIfInBounds_toArray, List.set_cons_zero, List.set_cons_succ]
  refine wpAnyH_take (i := 4) (v := .string x1) rfl (by kernel_rfl) (by kernel_rfl) (by kernel_rfl) (fun _ _ _ h => h) (Or.inl ⟨by kernel_rfl, ?_⟩) (by assumption) ?_
  · intro w9 hSw; (try dsimp only at hSw); go_simp
  simp only [Act.put, List.getElem_toArray, List.getElem_cons_succ, List.getElem_cons_zero, List.setIfInBounds_toArray, List.set_cons_zero, List.set_cons_succ]
  refine wpAnyH_ready (rs := [0]) (by kernel_rfl) (by simp) ?_
  refine AllReadyH.cons rfl (fun K hK => ?_) AllReadyH.nil
  go_simp
  have dA := d3.trans (bA3.mono d3.size)
  refine hK.out _ _ (BX.out _ dA).2 (fun hHeld0 => ?_)
  clear hK
  refine wpAnyH_ready (rs := [2]) (by kernel_rfl) (by simp) ?_
  refine AllReadyH.cons rfl (fun K hK => ?_) AllReadyH.nil
  refine step_append_src (by rfl) _ _ 55 (by rfl) w3.heap.size 5 i0 (.int .u8 0) 1 1 Tryz.underlying55 hi hz0 hz1 hz2 rfl (by decide) (.slice (some ⟨w3.heap.size, 0, none⟩) 0 0) 0 [] (by rfl) hown00 (.slice (some ⟨g3, 0, none⟩) 6 c3) 6 H6 (by rfl) (by omega) (src_later (src_own O3.out) bA3) hH61 (by unfold maxLen; omega) (by omega) (by simp) ?_
  intro v4 w4 o4 gr4
  have b4 : Below w3.heap.size w3 w4 := bA3.grown gr4 (by simp) (fun k h => by simp [Value.ownBlock] at h; omega)
  simp only [Act.put, List.setIfInBounds_toArray, List.set_cons_zero, List.set_cons_succ]
  have d4 := d3.trans (b4.mono d3.size)
  clear gr4
  refine hK.out _ _ (BX.out _ d4).2 (fun hHeld2 => ?_)
  clear hK
  refine wpAnyH_ready (rs := [5]) (by kernel_rfl) (by simp) ?_
  refine AllReadyH.cons rfl (fun K hK => ?_) AllReadyH.nil
  refine step_append_str (by rfl) _ _ 55 9 (by rfl) w3.heap.size 5 i0 Tryz.underlying55 Tryz.underlying9 hi hz0 hz1 hz2 v4 6 H6 (by rfl) (by simpa using o4) x1 (by rfl) (by unfold maxLen; omega) (by omega) b4.size ?_
  intro v5 w5 o5 gr5
  have b5 : Below w3.heap.size w3 w5 := b4.grown gr5 b4.size (fun k h => (o4.lt k h).1)
  simp only [Act.put, List.setIfInBounds_toArray, List.set_cons_zero, List.set_cons_succ]
  have d5 := d3.trans (b5.mono d3.size)
  clear gr5
  refine hK.out _ _ (BX.out _ d5).2 (fun hHeld5 => ?_)
  clear hK
  refine wpAnyH_ready (rs := [6]) (by kernel_rfl) (by simp) ?_
  refine AllReadyH.cons rfl (fun K hK => ?_) AllReadyH.nil
  go_simp
  refine (qC.out w5 v5 (own_base0 o5)).mono ?_
  rintro e w6 ⟨rfl, rfl⟩
  go_wp2_with fail
  refine hK.out _ _ (BX.out _ d5).2 (fun hHeld6 => ?_)
  clear hK
  refine wpAnyH_take (i := 7) (v := .int .i64 C) rfl (by kernel_rfl) (by kernel_rfl) (by kernel_rfl) (fun _ _ _ h => h) (Or.inl ⟨by kernel_rfl, ?_⟩) (by assumption) ?_
  · intro w9 hSw; (try dsimp only at hSw); go_simp
  simp only [Act.put, List.getElem_toArray, List.getElem_cons_succ, List.getElem_cons_zero, List.setIfInBounds_toArray, List.set_cons_zero, List.set_cons_succ]
  refine wpAnyH_done (by kernel_rfl) ?_ _
  have o6 := own_later O3.out b5
  clear y0 y1 o4 o5 hown00 bd3 bA3 b4
  go_wp2_with fail
  refine (q5.out _ _ _ o6).mono ?_
  rintro e w7 ⟨v7, rfl, o7, hb7⟩
  have d7 := d5.trans (hb7.mono d5.size)
  obtain ⟨y0, y1⟩ := BX.out w7 d7
  have hsz := (bW0.trans (d5.mono bW0.size)).size
  go_wp2_with (at_builtin; refine Lib.wpList_append_own_string _ rfl _ _ 55 9 rfl w6.heap.size 5 i0 Tryz.underlying55 Tryz.underlying9 hi hz0 hz1 hz2 _ _ _ rfl o7 x1 rfl ?c1 ?c2 hb7.size ?_)
  case c1 => unfold maxLen; omega
  case c2 => omega
  intro v8 w8 o8 gr8 _
  have b7 : Below w.heap.size w w7 := bW0.trans (d7.mono bW0.size)
  have b8 : Below w.heap.size w w8 := b7.grown gr8 b7.size (fun k h => by have := (o7.lt k h).1; omega)
  have o8' : w8.ownsRow w6.heap.size 5 1 v8 (10 + x1.size) ((frameL x0 (sB x1)).map (Value.int .u8)) := by rw [HF.out]; simpa [List.append_assoc] using o8
  have o9 := own_lower o8' hsz
  clear gr8 o7 o8 o8'
  go_wp2
  go_ret2
  exact ⟨_, rfl, o9, b8⟩

end Go.Proofs.YtkfmpfbhhmmllaaGreat

/- Conv: A row of bytes of the call's own, turned into a string. -/
namespace Go.Proofs.YtkfmpfbhhmmllaaGreat
open Go.RowKit
set_option linter.unusedVariables false
set_option maxRecDepth 100000

theorem own_conv {w : World} {base g n cap : Nat} {zs : List Int} (hl : zs.length = n) (h : w.ownsRow base 5 1 (.slice (some ⟨g, 0, none⟩) n cap) n (zs.map (Value.int .u8))) :
    (convert 55 9 (.slice (some ⟨g, 0, none⟩) n cap)).run Tryz.prog w = .ok (.string (strOfNums zs)) w := by
  refine run_convert_bytes_arg (P := Tryz.prog) w 55 5 Tryz.underlying55 Tryz.underlying5 g 0 n cap zs hl ?_ 9 Tryz.underlying9
  intro i hi
  rw [Nat.zero_add, h.cellAt i (by omega)]
  have : i < zs.length := by omega
  simp [this]

end Go.Proofs.YtkfmpfbhhmmllaaGreat

/- RfC: FrameRead of the model. By program (rfgen.py). -/
namespace Go.Proofs.YtkfmpfbhhmmllaaGreat
open Go.RowKit
set_option linter.unusedVariables false
set_option maxRecDepth 100000
set_option linter.unusedSimpArgs false

/-- A part of a slice of bytes as a string. -/
theorem cut_conv (b off n cap : Nat) (zs : List Int) (q m : Nat) (w : World) (hc : ∀ i, i < n → w.cell? ⟨b, off + i, none⟩ = some (.int .u8 (zs[i]?.getD 0))) (h : q + m ≤ n) (hl : zs.length = n) :
    (convert 55 9 (.slice (some ⟨b, off + q, none⟩) m cap)).run Tryz.prog w = .ok (.string (strOfNums (cutL zs q m))) w := by
  refine run_convert_bytes_arg (P := Tryz.prog) w 55 5 Tryz.underlying55 Tryz.underlying5 b (off + q) m cap (cutL zs q m) (cutL_len _ _ _ (by omega)) ?_ 9 Tryz.underlying9
  intro i hi
  have h1 := hc (q + i) (by omega)
  have e : off + q + i = off + (q + i) := by omega
  rw [e, h1]
  have e2 := cutL_at zs q m i hi
  have hlt : i < (cutL zs q m).length := by rw [cutL_len _ _ _ (by omega)]; exact hi
  rw [List.getElem?_eq_getElem hlt] at e2
  rw [← e2, List.getD_eq_getElem?_getD, List.getElem?_eq_getElem hlt]

set_option maxRecDepth 100000 in
set_option maxHeartbeats 4000000 in
theorem specRf_near (a : Option Addr) (n c : Nat) (p : Int) (w : World) (hn : n ≤ 1048576) (hp1 : -9223372036854775808 ≤ p) (hp2 : p ≤ 9223372036854775807) (k : Int)
    (h : (p < 0 ∧ k = 1) ∨ (¬ p < 0 ∧ (n : Int) < p ∧ k = 1) ∨ (¬ p < 0 ∧ ¬ (n : Int) < p ∧ (n : Int) - p < 10 ∧ k = 2)) :
    Calls Tryz.prog 74 #[.slice a n c, .int .i64 p] w fun e w' => e = .returned (.tuple #[.agg #[.int .i64 0, .string ByteArray.empty], .int .i64 0, .int .i64 k]) ∧ Below w.heap.size w w' := by
  rcases h with ⟨h1, rfl⟩ | ⟨h1, h2, rfl⟩ | ⟨h1, h2, h3, rfl⟩
  · go_enter Tryz.func74, Tryz.ntmps74
    go_wp2
    go_returns
    exact ⟨rfl, (((Below.refl _ _).alloc (Nat.le_refl _) _))⟩
  · go_enter Tryz.func74, Tryz.ntmps74
    go_wp2
    go_returns
    exact ⟨rfl, (((Below.refl _ _).alloc (Nat.le_refl _) _))⟩
  · go_enter Tryz.func74, Tryz.ntmps74
    go_wp2
    go_returns
    exact ⟨rfl, (((Below.refl _ _).alloc (Nat.le_refl _) _))⟩

end Go.Proofs.YtkfmpfbhhmmllaaGreat

/- RfL: FrameRead of the model. By program (rfgen.py). -/
namespace Go.Proofs.YtkfmpfbhhmmllaaGreat
open Go.RowKit
set_option linter.unusedVariables false
set_option maxRecDepth 100000
set_option linter.unusedSimpArgs false

set_option maxRecDepth 100000 in
set_option maxHeartbeats 8000000 in
theorem specRf_last (b off n c : Nat) (zs : List Int) (P s : Nat) (num : Int) (w : World) (hl : zs.length = n) (hb : b < w.heap.size) (hc : ∀ i, i < n → w.cell? ⟨b, off + i, none⟩ = some (.int .u8 (zs[i]?.getD 0))) (hz : Byt zs)
    (hcn : n ≤ c) (hcm : c ≤ maxLen) (hn : n ≤ 1048576) (hP : P + 10 ≤ n) (hs : gnum zs P 2 = (s : Int)) (hnum : gnum zs (P + 2) 4 = num) (h3 : ¬ s = 0) (h3' : ¬ 1000 < s) (h4 : ¬ (n : Int) - (P : Int) - 10 < (s : Int)) (h5 : ¬ num = 0) (h5' : ¬ 1000000000 < num)
    (R : Int × ByteArray × Int × Int) (hR' : (if gnum zs (P + 6) 4 = crcI (cutL zs P 6 ++ cutL zs (P + 10) ((s : Int)).toNat) then (num, strOfNums (cutL zs (P + 10) ((s : Int)).toNat), (P : Int) + 10 + (s : Int), (0 : Int)) else (0, ByteArray.empty, 0, 6)) = R) :
    Calls Tryz.prog 74 #[.slice (some ⟨b, off, none⟩) n c, .int .i64 (P : Int)] w fun e w' => e = .returned (.tuple #[.agg #[.int .i64 R.1, .string R.2.1], .int .i64 R.2.2.1, .int .i64 R.2.2.2]) ∧ Below w.heap.size w w' := by
  unfold maxLen at hcm
  have HC : Hid (∀ w', Below w.heap.size w w' → ∀ i, i < n → w'.cell? ⟨b, off + i, none⟩ = some (.int .u8 (zs[i]?.getD 0))) := fun w' hb' i hi => (hb'.cell (p := ⟨b, off + i, none⟩) hb).trans (hc i hi)
  have HRd : Hid (∀ w', Below w.heap.size w w' → Rd w' (some ⟨b, off, none⟩) zs) := fun w' hb' => ⟨hz, .inr ⟨b, off, rfl, Nat.lt_of_lt_of_le hb hb'.size, fun i hi => HC.out w' hb' i (by rw [hl] at hi; exact hi)⟩⟩
  have q1 : Hid (∀ w', Below w.heap.size w w' → Calls Tryz.prog 105 #[.slice (some ⟨b, off, none⟩) n c, .int .i64 (P : Int), .int .i64 2] w' fun e w'' => e = .returned (.tuple #[.int .i64 (s : Int), .bool true]) ∧ w'' = w') := fun w' hb' => by rw [← hs]; exact specGet_yes _ n c zs P 2 w' hl (HRd.out w' hb') (by omega) (by omega) (by omega) (by omega)
  have q2 : Hid (∀ w', Below w.heap.size w w' → Calls Tryz.prog 105 #[.slice (some ⟨b, off, none⟩) n c, .int .i64 ((P : Int) + 2), .int .i64 4] w' fun e w'' => e = .returned (.tuple #[.int .i64 num, .bool true]) ∧ w'' = w') := fun w' hb' => by rw [← hnum]; exact specGet_yes _ n c zs (P + 2) 4 w' hl (HRd.out w' hb') (by omega) (by omega) (by omega) (by omega)
  have hnb := gnum4_bd zs hz (P + 2)
  rw [hnum] at hnb
  have bW0 : Below w.heap.size w (w.alloc (.cells #[.int .i64 0, .string ⟨#[]⟩] 71)) := (Below.refl _ _).alloc (Nat.le_refl _) _
  have t1 : ¬ ((P : Int) < 0) := by omega
  have t2 : ¬ ((n : Int) < (P : Int)) := by omega
  have t3 : ¬ ((n : Int) - (P : Int) < 10) := by omega
  have s0 : ¬ ((s : Int) = 0) := by omega
  have s1 : ¬ ((1000 : Int) < (s : Int)) := by omega
  have s2 : ((s : Int) == 0) = false := by simp; omega
  have s3 : decide ((1000 : Int) < (s : Int)) = false := by simp; omega
  have s4 : (s == 0) = false := by simp; omega
  have s5 : decide (1000 < s) = false := by simp; omega
  have n2 : (num == 0) = false := by simp; omega
  have n3 : decide ((1000000000 : Int) < num) = false := by simp; omega
  obtain ⟨A, hA⟩ : ∃ A : Nat, A = P + 10 := ⟨_, rfl⟩
  obtain ⟨Z, hZ⟩ : ∃ Z : Nat, Z = A + s := ⟨_, rfl⟩
  have a1 : (P : Int) + 10 = (A : Int) := by omega
  have a2 : (A : Int) + (s : Int) = (Z : Int) := by omega
  have aw1 : IntKind.i64.wrap (A : Int) = (A : Int) := wrap_i64_in _ (by omega) (by omega)
  have aw2 : IntKind.i64.wrap (Z : Int) = (Z : Int) := wrap_i64_in _ (by omega) (by omega)
  have a3 : Z ≤ n := by omega
  have a4 : Z - A = s := by omega
  have a5 : Z - P = 10 + s := by omega
  have a6 : ¬ (c = A) := by omega
  have a7 : ¬ (c = P) := by omega
  obtain ⟨tx, htx⟩ : ∃ tx, tx = strOfNums (cutL zs A s) := ⟨_, rfl⟩
  have htl : tx.size = s := by rw [htx, strOfNums_size, cutL_len _ _ _ (by omega)]
  have htB : sB tx = cutL zs A s := by rw [htx]; exact sB_nums _ (byt_cutL zs hz _ _)
  have hcv : (convert 55 9 (.slice (some ⟨b, off + A, none⟩) s (c - A))).run Tryz.prog (w.alloc (.cells #[.int .i64 0, .string ⟨#[]⟩] 71)) = .ok (.string tx) (w.alloc (.cells #[.int .i64 0, .string ⟨#[]⟩] 71)) := by
    rw [htx]; exact cut_conv b off n (c - A) zs A s _ (HC.out _ bW0) (by omega) hl
  have hent : entB num tx.size = true := (entB_iff _ _).2 ⟨by omega, by omega, by omega, by omega⟩
  have qF : Hid (∀ w', Calls Tryz.prog 57 #[.agg #[.int .i64 num, .string tx]] w' fun e w'' => ∃ v, e = .returned (.tuple #[v, .bool true]) ∧ w''.ownsRow w'.heap.size 5 1 v (10 + s) ((frameL num (cutL zs A s)).map (Value.int .u8)) ∧ Below w'.heap.size w' w'') := fun w' => by
    have := specFrame_yes num tx w' hent
    rw [htB, htl] at this
    exact this
  obtain ⟨X, hX⟩ : ∃ X, X = strOfNums (frameL num (cutL zs A s)) := ⟨_, rfl⟩
  obtain ⟨Y, hY⟩ : ∃ Y, Y = strOfNums (cutL zs P (10 + s)) := ⟨_, rfl⟩
  have hFl : (frameL num (cutL zs A s)).length = 10 + s := by rw [frameL_len, cutL_len _ _ _ (by omega)]
  have qX : Hid (∀ w' B g c', w'.ownsRow B 5 1 (.slice (some ⟨g, 0, none⟩) (10 + s) c') (10 + s) ((frameL num (cutL zs A s)).map (Value.int .u8)) → (convert 55 9 (.slice (some ⟨g, 0, none⟩) (10 + s) c')).run Tryz.prog w' = .ok (.string X) w') := fun w' B g c' ho => by rw [hX]; exact own_conv hFl ho
  have qY : Hid (∀ w', Below w.heap.size w w' → (convert 55 9 (.slice (some ⟨b, off + P, none⟩) (10 + s) (c - P))).run Tryz.prog w' = .ok (.string Y) w') := fun w' hb' => by rw [hY]; exact cut_conv b off n (c - P) zs P (10 + s) w' (HC.out w' hb') (by omega) hl
  have hXY : X = Y ↔ gnum zs (P + 6) 4 = crcI (cutL zs P 6 ++ cutL zs A s) := by
    have h1 := frame_at zs hz P s (by omega) hs
    rw [hnum, ← hA] at h1
    rw [← h1, hX, hY]
    constructor
    · exact strNums_inj _ _ (byt_frameL _ _ (byt_cutL zs hz _ _)) (byt_cutL zs hz _ _)
    · intro e; rw [e]
  rw [← hA, show ((s : Int)).toNat = s by omega, ← htx] at hR'
  have hAb : A ≤ n := by omega
  have hAZ : A ≤ Z := by omega
  have hZc : Z ≤ c := by omega
  have hZc' : ¬ c < Z := by omega
  have hPZ : P ≤ Z := by omega
  clear HC HRd hc hl hz hs hnum htx htB hent hX hY hFl hA hZ
  go_enter Tryz.func74, Tryz.ntmps74
  go_wp2_with fail
  refine (q1.out _ bW0).mono ?_
  rintro e w1 ⟨rfl, rfl⟩
  go_wp2_with fail
  refine (q2.out _ bW0).mono ?_
  rintro e w2 ⟨rfl, rfl⟩
  go_wp2_with fail
  obtain ⟨W2, hW2⟩ : ∃ W2, W2 = (w.alloc (.cells #[.int .i64 0, .string ⟨#[]⟩] 71)).alloc (.cells #[.int .i64 num, .string tx] 71) := ⟨_, rfl⟩
  have bW2 : Below w.heap.size w W2 := by rw [hW2]; exact bW0.alloc bW0.size _
  have hA2 : W2.heap[w.heap.size]? = some (.cells #[.int .i64 0, .string ⟨#[]⟩] 71 (0, 0)) := by
    rw [hW2]; exact (heap_alloc_old _ _ (by simp)).trans (heap_alloc_new w _)
  have hB2 : W2.heap[w.heap.size + 1]? = some (.cells #[.int .i64 num, .string tx] 71 (0, 0)) := by
    have h9 := heap_alloc_new (w.alloc (.cells #[.int .i64 0, .string ⟨#[]⟩] 71)) (.cells #[.int .i64 num, .string tx] 71)
    rw [hW2]; simpa using h9
  have zW2 : w.heap.size + 1 < W2.heap.size := by rw [hW2]; simp
  rw [← hW2]
  clear hW2 hcv bW0 q1 q2
  refine (qF.out _).mono ?_
  rintro e w5 ⟨v5, rfl, o5, hb5⟩
  obtain ⟨g5, c5, rfl, hg5, hl5⟩ := own_form o5 (by omega)
  have b5 : Below w.heap.size w w5 := bW2.trans (hb5.mono bW2.size)
  have hA5 := (hb5.block _ (by omega : w.heap.size < W2.heap.size)).trans hA2
  have hB5 := (hb5.block _ zW2).trans hB2
  have u0 : w5.cell? ⟨w.heap.size, 0, none⟩ = some (.int .i64 0) := box_cell hA5 rfl
  have u1 : w5.cell? ⟨w.heap.size, 1, none⟩ = some (.string ⟨#[]⟩) := box_cell hA5 rfl
  have f0 : w5.frozen? ⟨w.heap.size, 0, none⟩ = false := box_frozen hA5
  have f1 : w5.frozen? ⟨w.heap.size, 1, none⟩ = false := box_frozen hA5
  have k0 : w5.cell? ⟨w.heap.size + 1, 0, none⟩ = some (.int .i64 num) := box_cell hB5 rfl
  have k1 : w5.cell? ⟨w.heap.size + 1, 1, none⟩ = some (.string tx) := box_cell hB5 rfl
  have cX : (convert 55 9 (.slice (some ⟨g5, 0, none⟩) (10 + s) c5)).run Tryz.prog w5.drew = .ok (.string X) w5.drew := qX.out _ _ _ _ (own_later o5 (Below.refl _ _).drew)
  have cY : (convert 55 9 (.slice (some ⟨b, off + P, none⟩) (10 + s) (c - P))).run Tryz.prog w5.drew = .ok (.string Y) w5.drew := qY.out _ b5.drew
  have hws : w.heap.size < w5.heap.size := by have := hb5.size; omega
  have hws1 : w.heap.size + 1 < w5.heap.size := by have := hb5.size; omega
  clear o5 qX qY qF hA2 hB2 hb5 hg5 hl5
  by_cases hE : X = Y
  · rw [if_pos (hXY.1 hE)] at hR'
    have HR' : Hid (R = (num, tx, (Z : Int), 0)) := by show _ = _; rw [← hR', ← a2, ← a1]
    have hq1 : (X.toList == Y.toList) = true := by rw [hE]; simp
    have r0 : (w5.setCell ⟨w.heap.size, 0, none⟩ (.int .i64 num)).cell? ⟨w.heap.size, 0, none⟩ = some (.int .i64 num) := box_cell (box_set (.int .i64 num) hA5) rfl
    have r1 : ((w5.setCell ⟨w.heap.size, 0, none⟩ (.int .i64 num)).setCell ⟨w.heap.size, 1, none⟩ (.string tx)).cell? ⟨w.heap.size, 1, none⟩ = some (.string tx) := box_cell (box_set (.string tx) (box_set (.int .i64 num) hA5)) rfl
    clear hR' hXY hE
    go_wp2_with fail
    refine wp_region_held_drew (S := fun w' => (convert 55 9 (.slice (some ⟨g5, 0, none⟩) (10 + s) c5)).run Tryz.prog w' = .ok (.string X) w' ∧ (convert 55 9 (.slice (some ⟨b, off + P, none⟩) (10 + s) (c - P))).run Tryz.prog w' = .ok (.string Y) w') (by kernel_rfl) ⟨cX, cY⟩ (fun hHeld => ?_)
    refine wpAnyH_take (i := 0) (v := .slice (some ⟨g5, 0, none⟩) (10 + s) c5) rfl (by kernel_rfl) (by kernel_rfl) (by kernel_rfl) (fun _ _ _ h => h) (Or.inl ⟨by kernel_rfl, ?_⟩) (by assumption) ?_
    · intro w9 hSw; (try dsimp only at hSw); go_simp
    simp only [Act.put, List.getElem_toArray, List.getElem_cons_succ, List.getElem_cons_zero, List.setIfInBounds_toArray, List.set_cons_zero, List.set_cons_succ]
    refine wpAnyH_take (i := 1) (v := .string X) rfl (by kernel_rfl) (by kernel_rfl) (by kernel_rfl) (fun _ _ _ h => h) (Or.inl ⟨by kernel_rfl, ?_⟩) (by assumption) ?_
    · intro w9 hSw; (try dsimp only at hSw); go_simp
    simp only [Act.put, List.getElem_toArray, List.getElem_cons_succ, List.getElem_cons_zero, List.setIfInBounds_toArray, List.set_cons_zero, List.set_cons_succ]
    refine wpAnyH_take (i := 2) (v := .slice (some ⟨b, off, none⟩) n c) rfl (by kernel_rfl) (by kernel_rfl) (by kernel_rfl) (fun _ _ _ h => h) (Or.inl ⟨by kernel_rfl, ?_⟩) (by assumption) ?_
    · intro w9 hSw; (try dsimp only at hSw); go_simp
    simp only [Act.put, List.getElem_toArray, List.getElem_cons_succ, List.getElem_cons_zero, List.setIfInBounds_toArray, List.set_cons_zero, List.set_cons_succ]
    refine wpAnyH_take (i := 3) (v := .int .i64 P) rfl (by kernel_rfl) (by kernel_rfl) (by kernel_rfl) (fun _ _ _ h => h) (Or.inl ⟨by kernel_rfl, ?_⟩) (by assumption) ?_
    · intro w9 hSw; (try dsimp only at hSw); go_simp
    simp only [Act.put, List.getElem_toArray, List.getElem_cons_succ, List.getElem_cons_zero, List.setIfInBounds_toArray, List.set_cons_zero, List.set_cons_succ]
    refine wpAnyH_take (i := 4) (v := .int .i64 P) rfl (by kernel_rfl) (by kernel_rfl) (by kernel_rfl) (fun _ _ _ h => h) (Or.inl ⟨by kernel_rfl, ?_⟩) (by assumption) ?_
    · intro w9 hSw; (try dsimp only at hSw); go_simp
    simp only [Act.put, List.getElem_toArray, List.getElem_cons_succ, List.getElem_cons_zero, List.setIfInBounds_toArray, List.set_cons_zero, List.set_cons_succ]
    refine wpAnyH_take (i := 5) (v := .int .i64 A) rfl (by kernel_rfl) (by kernel_rfl) (by kernel_rfl) (fun _ _ _ h => h) (Or.inl ⟨by kernel_rfl, ?_⟩) (by assumption) ?_
    · intro w9 hSw; (try dsimp only at hSw); go_simp
    simp only [Act.put, List.getElem_toArray, List.getElem_cons_succ, List.getElem_cons_zero, List.setIfInBounds_toArray, List.set_cons_zero, List.set_cons_succ]
    refine wpAnyH_take (i := 6) (v := .int .i64 s) rfl (by kernel_rfl) (by kernel_rfl) (by kernel_rfl) (fun _ _ _ h => h) (Or.inl ⟨by kernel_rfl, ?_⟩) (by assumption) ?_
    · intro w9 hSw; (try dsimp only at hSw); go_simp
    simp only [Act.put, List.getElem_toArray, List.getElem_cons_succ, List.getElem_cons_zero, List.setIfInBounds_toArray, List.set_cons_zero, List.set_cons_succ]
    refine wpAnyH_take (i := 7) (v := .int .i64 Z) rfl (by kernel_rfl) (by kernel_rfl) (by kernel_rfl) (fun _ _ _ h => h) (Or.inl ⟨by kernel_rfl, ?_⟩) (by assumption) ?_
    · intro w9 hSw; (try dsimp only at hSw); go_simp
    simp only [Act.put, List.getElem_toArray, List.getElem_cons_succ, List.getElem_cons_zero, List.setIfInBounds_toArray, List.set_cons_zero, List.set_cons_succ]
    refine wpAnyH_take (i := 8) (v := .slice (some ⟨b, off + P, none⟩) (10 + s) (c - P)) rfl (by kernel_rfl) (by kernel_rfl) (by kernel_rfl) (fun _ _ _ h => h) (Or.inl ⟨by kernel_rfl, ?_⟩) (by assumption) ?_
    · intro w9 hSw; (try dsimp only at hSw); go_simp
    simp only [Act.put, List.getElem_toArray, List.getElem_cons_succ, List.getElem_cons_zero, List.setIfInBounds_toArray, List.set_cons_zero, List.set_cons_succ]
    refine wpAnyH_take (i := 9) (v := .string Y) rfl (by kernel_rfl) (by kernel_rfl) (by kernel_rfl) (fun _ _ _ h => h) (Or.inl ⟨by kernel_rfl, ?_⟩) (by assumption) ?_
    · intro w9 hSw; (try dsimp only at hSw); go_simp
    simp only [Act.put, List.getElem_toArray, List.getElem_cons_succ, List.getElem_cons_zero, List.setIfInBounds_toArray, List.set_cons_zero, List.set_cons_succ]
    refine wpAnyH_take (i := 10) (v := .bool false) rfl (by kernel_rfl) (by kernel_rfl) (by kernel_rfl) (fun _ _ _ h => h) (Or.inl ⟨by kernel_rfl, ?_⟩) (by assumption) ?_
    · intro w9 hSw; (try dsimp only at hSw); go_simp
    simp only [Act.put, List.getElem_toArray, List.getElem_cons_succ, List.getElem_cons_zero, List.setIfInBounds_toArray, List.set_cons_zero, List.set_cons_succ]
    refine wpAnyH_done (by kernel_rfl) ?_ _
    have bS : Below w.heap.size w ((w5.drew.setCell ⟨w.heap.size, 0, none⟩ (.int .i64 num)).setCell ⟨w.heap.size, 1, none⟩ (.string tx)) := (b5.drew.setCell (Nat.le_refl _) _).setCell (Nat.le_refl _) _
    go_wp2
    (try simp only [Exit.inBlock, Exit.then])
    refine bodyPost_ret (by simp [results, Tryz.results74, go_sem, r0, r1]; try rfl) rfl ?_
    exact ⟨by rw [HR'.out], bS⟩
  · rw [if_neg (fun h => hE (hXY.2 h))] at hR'
    have HR' : Hid (R = (0, ByteArray.empty, 0, 6)) := hR'.symm
    have hq1 : (X.toList == Y.toList) = false := by
      rw [Bool.eq_false_iff]
      intro h
      rw [beq_iff_eq] at h
      exact hE (ByteArray.ext (Array.toList_inj.1 (by simpa [ByteArray.toList_eq] using h)))
    have r0 : (w5.setCell ⟨w.heap.size, 0, none⟩ (.int .i64 0)).cell? ⟨w.heap.size, 0, none⟩ = some (.int .i64 0) := box_cell (box_set (.int .i64 0) hA5) rfl
    have r1 : ((w5.setCell ⟨w.heap.size, 0, none⟩ (.int .i64 0)).setCell ⟨w.heap.size, 1, none⟩ (.string ⟨#[]⟩)).cell? ⟨w.heap.size, 1, none⟩ = some (.string ⟨#[]⟩) := box_cell (box_set (.string ⟨#[]⟩) (box_set (.int .i64 0) hA5)) rfl
    clear hR' hXY hE
    go_wp2_with fail
    refine wp_region_held_drew (S := fun w' => (convert 55 9 (.slice (some ⟨g5, 0, none⟩) (10 + s) c5)).run Tryz.prog w' = .ok (.string X) w' ∧ (convert 55 9 (.slice (some ⟨b, off + P, none⟩) (10 + s) (c - P))).run Tryz.prog w' = .ok (.string Y) w') (by kernel_rfl) ⟨cX, cY⟩ (fun hHeld => ?_)
    refine wpAnyH_take (i := 0) (v := .slice (some ⟨g5, 0, none⟩) (10 + s) c5) rfl (by kernel_rfl) (by kernel_rfl) (by kernel_rfl) (fun _ _ _ h => h) (Or.inl ⟨by kernel_rfl, ?_⟩) (by assumption) ?_
    · intro w9 hSw; (try dsimp only at hSw); go_simp
    simp only [Act.put, List.getElem_toArray, List.getElem_cons_succ, List.getElem_cons_zero, List.setIfInBounds_toArray, List.set_cons_zero, List.set_cons_succ]
    refine wpAnyH_take (i := 1) (v := .string X) rfl (by kernel_rfl) (by kernel_rfl) (by kernel_rfl) (fun _ _ _ h => h) (Or.inl ⟨by kernel_rfl, ?_⟩) (by assumption) ?_
    · intro w9 hSw; (try dsimp only at hSw); go_simp
    simp only [Act.put, List.getElem_toArray, List.getElem_cons_succ, List.getElem_cons_zero, List.setIfInBounds_toArray, List.set_cons_zero, List.set_cons_succ]
    refine wpAnyH_take (i := 2) (v := .slice (some ⟨b, off, none⟩) n c) rfl (by kernel_rfl) (by kernel_rfl) (by kernel_rfl) (fun _ _ _ h => h) (Or.inl ⟨by kernel_rfl, ?_⟩) (by assumption) ?_
    · intro w9 hSw; (try dsimp only at hSw); go_simp
    simp only [Act.put, List.getElem_toArray, List.getElem_cons_succ, List.getElem_cons_zero, List.setIfInBounds_toArray, List.set_cons_zero, List.set_cons_succ]
    refine wpAnyH_take (i := 3) (v := .int .i64 P) rfl (by kernel_rfl) (by kernel_rfl) (by kernel_rfl) (fun _ _ _ h => h) (Or.inl ⟨by kernel_rfl, ?_⟩) (by assumption) ?_
    · intro w9 hSw; (try dsimp only at hSw); go_simp
    simp only [Act.put, List.getElem_toArray, List.getElem_cons_succ, List.getElem_cons_zero, List.setIfInBounds_toArray, List.set_cons_zero, List.set_cons_succ]
    refine wpAnyH_take (i := 4) (v := .int .i64 P) rfl (by kernel_rfl) (by kernel_rfl) (by kernel_rfl) (fun _ _ _ h => h) (Or.inl ⟨by kernel_rfl, ?_⟩) (by assumption) ?_
    · intro w9 hSw; (try dsimp only at hSw); go_simp
    simp only [Act.put, List.getElem_toArray, List.getElem_cons_succ, List.getElem_cons_zero, List.setIfInBounds_toArray, List.set_cons_zero, List.set_cons_succ]
    refine wpAnyH_take (i := 5) (v := .int .i64 A) rfl (by kernel_rfl) (by kernel_rfl) (by kernel_rfl) (fun _ _ _ h => h) (Or.inl ⟨by kernel_rfl, ?_⟩) (by assumption) ?_
    · intro w9 hSw; (try dsimp only at hSw); go_simp
    simp only [Act.put, List.getElem_toArray, List.getElem_cons_succ, List.getElem_cons_zero, List.setIfInBounds_toArray, List.set_cons_zero, List.set_cons_succ]
    refine wpAnyH_take (i := 6) (v := .int .i64 s) rfl (by kernel_rfl) (by kernel_rfl) (by kernel_rfl) (fun _ _ _ h => h) (Or.inl ⟨by kernel_rfl, ?_⟩) (by assumption) ?_
    · intro w9 hSw; (try dsimp only at hSw); go_simp
    simp only [Act.put, List.getElem_toArray, List.getElem_cons_succ, List.getElem_cons_zero, List.setIfInBounds_toArray, List.set_cons_zero, List.set_cons_succ]
    refine wpAnyH_take (i := 7) (v := .int .i64 Z) rfl (by kernel_rfl) (by kernel_rfl) (by kernel_rfl) (fun _ _ _ h => h) (Or.inl ⟨by kernel_rfl, ?_⟩) (by assumption) ?_
    · intro w9 hSw; (try dsimp only at hSw); go_simp
    simp only [Act.put, List.getElem_toArray, List.getElem_cons_succ, List.getElem_cons_zero, List.setIfInBounds_toArray, List.set_cons_zero, List.set_cons_succ]
    refine wpAnyH_take (i := 8) (v := .slice (some ⟨b, off + P, none⟩) (10 + s) (c - P)) rfl (by kernel_rfl) (by kernel_rfl) (by kernel_rfl) (fun _ _ _ h => h) (Or.inl ⟨by kernel_rfl, ?_⟩) (by assumption) ?_
    · intro w9 hSw; (try dsimp only at hSw); go_simp
    simp only [Act.put, List.getElem_toArray, List.getElem_cons_succ, List.getElem_cons_zero, List.setIfInBounds_toArray, List.set_cons_zero, List.set_cons_succ]
    refine wpAnyH_take (i := 9) (v := .string Y) rfl (by kernel_rfl) (by kernel_rfl) (by kernel_rfl) (fun _ _ _ h => h) (Or.inl ⟨by kernel_rfl, ?_⟩) (by assumption) ?_
    · intro w9 hSw; (try dsimp only at hSw); go_simp
    simp only [Act.put, List.getElem_toArray, List.getElem_cons_succ, List.getElem_cons_zero, List.setIfInBounds_toArray, List.set_cons_zero, List.set_cons_succ]
    refine wpAnyH_take (i := 10) (v := .bool true) rfl (by kernel_rfl) (by kernel_rfl) (by kernel_rfl) (fun _ _ _ h => h) (Or.inl ⟨by kernel_rfl, ?_⟩) (by assumption) ?_
    · intro w9 hSw; (try dsimp only at hSw); go_simp
    simp only [Act.put, List.getElem_toArray, List.getElem_cons_succ, List.getElem_cons_zero, List.setIfInBounds_toArray, List.set_cons_zero, List.set_cons_succ]
    refine wpAnyH_done (by kernel_rfl) ?_ _
    have bS : Below w.heap.size w ((w5.drew.setCell ⟨w.heap.size, 0, none⟩ (.int .i64 0)).setCell ⟨w.heap.size, 1, none⟩ (.string ⟨#[]⟩)) := (b5.drew.setCell (Nat.le_refl _) _).setCell (Nat.le_refl _) _
    go_wp2
    (try simp only [Exit.inBlock, Exit.then])
    refine bodyPost_ret (by simp [results, Tryz.results74, go_sem, r0, r1]; try rfl) rfl ?_
    exact ⟨by rw [HR'.out]; rfl, bS⟩

end Go.Proofs.YtkfmpfbhhmmllaaGreat

/- RfS: FrameRead of the model. By program (rfgen.py). -/
namespace Go.Proofs.YtkfmpfbhhmmllaaGreat
open Go.RowKit
set_option linter.unusedVariables false
set_option maxRecDepth 100000
set_option linter.unusedSimpArgs false

set_option maxRecDepth 100000 in
set_option maxHeartbeats 8000000 in
theorem specRf_far (b off n c : Nat) (zs : List Int) (P s : Nat) (num sm : Int) (w : World) (hl : zs.length = n) (hb : b < w.heap.size) (hc : ∀ i, i < n → w.cell? ⟨b, off + i, none⟩ = some (.int .u8 (zs[i]?.getD 0))) (hz : Byt zs)
    (hcn : n ≤ c) (hcm : c ≤ maxLen) (hn : n ≤ 1048576) (hP : P + 10 ≤ n) (hs : gnum zs P 2 = (s : Int)) (hnum : gnum zs (P + 2) 4 = num) (R : Int × ByteArray × Int × Int) (hR : frAns zs (P : Int) = R) :
    Calls Tryz.prog 74 #[.slice (some ⟨b, off, none⟩) n c, .int .i64 (P : Int)] w fun e w' => e = .returned (.tuple #[.agg #[.int .i64 R.1, .string R.2.1], .int .i64 R.2.2.1, .int .i64 R.2.2.2]) ∧ Below w.heap.size w w' := by
  have HC : Hid (∀ w', Below w.heap.size w w' → ∀ i, i < n → w'.cell? ⟨b, off + i, none⟩ = some (.int .u8 (zs[i]?.getD 0))) := fun w' hb' i hi => (hb'.cell (p := ⟨b, off + i, none⟩) hb).trans (hc i hi)
  have HRd : Hid (∀ w', Below w.heap.size w w' → Rd w' (some ⟨b, off, none⟩) zs) := fun w' hb' => ⟨hz, .inr ⟨b, off, rfl, Nat.lt_of_lt_of_le hb hb'.size, fun i hi => HC.out w' hb' i (by rw [hl] at hi; exact hi)⟩⟩
  have q1 : Hid (∀ w', Below w.heap.size w w' → Calls Tryz.prog 105 #[.slice (some ⟨b, off, none⟩) n c, .int .i64 (P : Int), .int .i64 2] w' fun e w'' => e = .returned (.tuple #[.int .i64 (s : Int), .bool true]) ∧ w'' = w') := fun w' hb' => by rw [← hs]; exact specGet_yes _ n c zs P 2 w' hl (HRd.out w' hb') (by omega) (by omega) (by omega) (by omega)
  have q2 : Hid (∀ w', Below w.heap.size w w' → Calls Tryz.prog 105 #[.slice (some ⟨b, off, none⟩) n c, .int .i64 ((P : Int) + 2), .int .i64 4] w' fun e w'' => e = .returned (.tuple #[.int .i64 num, .bool true]) ∧ w'' = w') := fun w' hb' => by rw [← hnum]; exact specGet_yes _ n c zs (P + 2) 4 w' hl (HRd.out w' hb') (by omega) (by omega) (by omega) (by omega)
  have hnb := gnum4_bd zs hz (P + 2)
  rw [hnum] at hnb
  have hsb := gnum2_bd zs hz P
  rw [hs] at hsb
  have hsn : s < 65536 := by omega
  have hR' := hR
  unfold frAns at hR'
  have eP : ((P : Int)).toNat = P := by omega
  rw [hl, eP, hs, hnum, if_neg (by omega), if_neg (by omega)] at hR'
  have bW0 : Below w.heap.size w (w.alloc (.cells #[.int .i64 0, .string ⟨#[]⟩] 71)) := (Below.refl _ _).alloc (Nat.le_refl _) _
  have t1 : ¬ ((P : Int) < 0) := by omega
  have t2 : ¬ ((n : Int) < (P : Int)) := by omega
  have t3 : ¬ ((n : Int) - (P : Int) < 10) := by omega
  by_cases h3 : s = 0
  · rw [if_pos (by omega)] at hR'
    have HR' : Hid (R = (0, ByteArray.empty, 0, 3)) := hR'.symm
    rw [HR'.out]
    clear hR hR' HR' HC HRd hc hl hz hs hnum
    subst h3
    go_enter Tryz.func74, Tryz.ntmps74
    go_wp2_with fail
    refine (q1.out _ bW0).mono ?_
    rintro e w1 ⟨rfl, rfl⟩
    go_wp2_with fail
    refine (q2.out _ bW0).mono ?_
    rintro e w2 ⟨rfl, rfl⟩
    go_wp2
    go_returns
    exact ⟨rfl, bW0⟩
  by_cases h3' : 1000 < s
  · rw [if_pos (by omega)] at hR'
    have HR' : Hid (R = (0, ByteArray.empty, 0, 3)) := hR'.symm
    rw [HR'.out]
    clear hR hR' HR' HC HRd hc hl hz hs hnum
    have s0 : ¬ ((s : Int) = 0) := by omega
    have s1 : ((1000 : Int) < (s : Int)) := by omega
    go_enter Tryz.func74, Tryz.ntmps74
    go_wp2_with fail
    refine (q1.out _ bW0).mono ?_
    rintro e w1 ⟨rfl, rfl⟩
    go_wp2_with fail
    refine (q2.out _ bW0).mono ?_
    rintro e w2 ⟨rfl, rfl⟩
    go_wp2
    go_returns
    exact ⟨rfl, bW0⟩
  rw [if_neg (by omega)] at hR'
  have s0 : ¬ ((s : Int) = 0) := by omega
  have s1 : ¬ ((1000 : Int) < (s : Int)) := by omega
  have s2 : ((s : Int) == 0) = false := by simp; omega
  have s3 : decide ((1000 : Int) < (s : Int)) = false := by simp; omega
  have s4 : (s == 0) = false := by simp; omega
  have s5 : decide (1000 < s) = false := by simp; omega
  by_cases h4 : (n : Int) - (P : Int) - 10 < (s : Int)
  · rw [if_pos h4] at hR'
    have HR' : Hid (R = (0, ByteArray.empty, 0, 4)) := hR'.symm
    rw [HR'.out]
    clear hR hR' HR' HC HRd hc hl hz hs hnum
    go_enter Tryz.func74, Tryz.ntmps74
    go_wp2_with fail
    refine (q1.out _ bW0).mono ?_
    rintro e w1 ⟨rfl, rfl⟩
    go_wp2_with fail
    refine (q2.out _ bW0).mono ?_
    rintro e w2 ⟨rfl, rfl⟩
    go_wp2
    go_returns
    exact ⟨rfl, bW0⟩
  rw [if_neg h4] at hR'
  by_cases h5 : num = 0
  · rw [if_pos (by omega)] at hR'
    have HR' : Hid (R = (0, ByteArray.empty, 0, 5)) := hR'.symm
    rw [HR'.out]
    clear hR hR' HR' HC HRd hc hl hz hs hnum
    subst h5
    go_enter Tryz.func74, Tryz.ntmps74
    go_wp2_with fail
    refine (q1.out _ bW0).mono ?_
    rintro e w1 ⟨rfl, rfl⟩
    go_wp2_with fail
    refine (q2.out _ bW0).mono ?_
    rintro e w2 ⟨rfl, rfl⟩
    go_wp2
    go_returns
    exact ⟨rfl, bW0⟩
  by_cases h5' : 1000000000 < num
  · rw [if_pos (by omega)] at hR'
    have HR' : Hid (R = (0, ByteArray.empty, 0, 5)) := hR'.symm
    rw [HR'.out]
    clear hR hR' HR' HC HRd hc hl hz hs hnum
    go_enter Tryz.func74, Tryz.ntmps74
    go_wp2_with fail
    refine (q1.out _ bW0).mono ?_
    rintro e w1 ⟨rfl, rfl⟩
    go_wp2_with fail
    refine (q2.out _ bW0).mono ?_
    rintro e w2 ⟨rfl, rfl⟩
    go_wp2
    go_returns
    exact ⟨rfl, bW0⟩
  rw [if_neg (by omega)] at hR'
  exact specRf_last b off n c zs P s num w hl hb hc hz hcn hcm hn hP hs hnum (by omega) (by omega) (by omega) (by omega) (by omega) R hR'

end Go.Proofs.YtkfmpfbhhmmllaaGreat

/- RfIP: Numbers of a part of some bytes (plain facts for the program's reading). -/
namespace Go.Proofs.YtkfmpfbhhmmllaaGreat
open Go.RowKit
set_option linter.unusedVariables false
set_option maxRecDepth 100000

theorem gnum_cut (zs : List Int) (P m q : Nat) : ∀ k, q + k ≤ m → gnum (cutL zs P m) q k = gnum zs (P + q) k
  | 0, _ => rfl
  | k + 1, h => by
    show gnum (cutL zs P m) q k * 256 + (cutL zs P m)[q + k]?.getD 0 = gnum zs (P + q) k * 256 + zs[P + q + k]?.getD 0
    rw [gnum_cut zs P m q k (by omega), cutL_at zs P m (q + k) (by omega), Nat.add_assoc]

theorem rd_cut {w : World} {b off n : Nat} {zs : List Int} (hb : b < w.heap.size) (hz : Byt zs) (hl : zs.length = n) (hc : ∀ i, i < n → w.cell? ⟨b, off + i, none⟩ = some (.int .u8 (zs[i]?.getD 0))) (q m : Nat) (h : q + m ≤ n) : Rd w (some ⟨b, off + q, none⟩) (cutL zs q m) := by
  refine ⟨byt_cutL zs hz _ _, .inr ⟨b, off + q, rfl, hb, fun i hi => ?_⟩⟩
  rw [cutL_len _ _ _ (by omega)] at hi
  rw [cutL_at zs q m i hi, Nat.add_assoc]
  exact hc (q + i) (by omega)

theorem src_cut {w : World} {b off n : Nat} {zs : List Int} (hl : zs.length = n) (hc : ∀ i, i < n → w.cell? ⟨b, off + i, none⟩ = some (.int .u8 (zs[i]?.getD 0))) (q m c : Nat) (h : q + m ≤ n) : Src w (.slice (some ⟨b, off + q, none⟩) m c) m ((cutL zs q m).map (Value.int .u8)) := by
  refine .inr ⟨_, c, rfl, fun j u hu => ?_⟩
  have hj : j < m := by
    have := (List.getElem?_eq_some_iff.1 hu).1
    rwa [List.length_map, cutL_len _ _ _ (by omega)] at this
  have e : (⟨b, off + q, none⟩ : Addr).add j = ⟨b, off + (q + j), none⟩ := by cases j <;> simp [Addr.add, Nat.add_assoc]
  rw [e, hc (q + j) (by omega), ← hu, List.getElem?_map, cutL_at zs q m j hj, get_some zs (q + j) (by omega)]
  rfl

end Go.Proofs.YtkfmpfbhhmmllaaGreat

/- GetI: The program's GetNum. -/
namespace Go.Proofs.YtkfmpfbhhmmllaaGreat
open Go.RowKit
set_option linter.unusedVariables false
set_option maxRecDepth 100000

set_option maxHeartbeats 400000 in
theorem implGet_no (a : Option Addr) (n cap : Nat) (p s : Int) (w : World) (hn : n ≤ 2097152) (hp : -9223372036854775808 ≤ p ∧ p ≤ 9223372036854775807) (hs : -9223372036854775808 ≤ s ∧ s ≤ 9223372036854775807) (h : ¬ gok n p s) :
    Calls Tryz.prog 132 #[.slice a n cap, .int .i64 p, .int .i64 s] w fun e w' => e = .returned (.tuple #[.int .i64 0, .bool false]) ∧ w' = w := by
  unfold gok at h
  by_cases h1 : s < 1
  · go_enter Tryz.func132, Tryz.ntmps132
    go_wp2
    go_ret2
    exact ⟨rfl, rfl⟩
  by_cases h2 : 4 < s
  · go_enter Tryz.func132, Tryz.ntmps132
    go_wp2
    go_ret2
    exact ⟨rfl, rfl⟩
  by_cases h3 : p < 0
  · go_enter Tryz.func132, Tryz.ntmps132
    go_wp2
    go_ret2
    exact ⟨rfl, rfl⟩
  have h4 : (n : Int) - s < p := by omega
  clear h
  go_enter Tryz.func132, Tryz.ntmps132
  go_wp2
  go_ret2
  exact ⟨rfl, rfl⟩

set_option maxHeartbeats 400000 in
theorem implGet_yes (a : Option Addr) (n cap : Nat) (zs : List Int) (p s : Nat) (w : World) (hl : Hid (zs.length = n)) (hr : Rd w a zs) (hn : n ≤ 2097152) (hs1 : 1 ≤ s) (hs4 : s ≤ 4) (hps : p + s ≤ n) :
    Calls Tryz.prog 132 #[.slice a n cap, .int .i64 p, .int .i64 s] w fun e w' => e = .returned (.tuple #[.int .i64 (gnum zs p s), .bool true]) ∧ w' = w := by
  have hne : zs ≠ [] := by intro h; have := hl.out; subst h; simp at this; omega
  obtain ⟨b, off, rfl, hb, hc⟩ := hr.2.resolve_left hne
  have hz := hr.1
  clear hr hne
  go_enter Tryz.func132, Tryz.ntmps132
  go_wp2
  go_loop [8, 26] (fun m i => ∃ k : Nat, k ≤ s ∧ m = .int .i64 (gnum zs p k) ∧ i = .int .i64 k) (fun _ i => s - (intOf i).toNat)
  case atStart => exact ⟨0, Nat.zero_le _, rfl, rfl⟩
  case round =>
    obtain ⟨k, hk, rfl, rfl⟩ := hrel
    by_cases hlt : k < s
    · have hce : w.cell? ⟨b, off + (p + k), none⟩ = some (.int .u8 (zs[p + k]?.getD 0)) := hc (p + k) (by have := hl.out; omega)
      have hg := gnum_lt zs hz p k (by omega)
      have hzk := hz (p + k)
      clear hc hz
      go_wp2
      go_round
      case rel => exact ⟨k + 1, by omega, by rw [i64_or_byte _ _ hg.1 hg.2 hzk.1 hzk.2]; rfl, by go_num⟩
      case measure => simp [intOf]; omega
    · have e : k = s := by omega
      subst e
      go_wp2
      go_ret2
      exact ⟨rfl, rfl⟩

end Go.Proofs.YtkfmpfbhhmmllaaGreat

/- CrcI: Crc32, the program's: a register that a closure turns, byte by byte. -/
namespace Go.Proofs.YtkfmpfbhhmmllaaGreat
open Go.RowKit
set_option linter.unusedVariables false
set_option maxRecDepth 100000

/-- The register: one cell of the call's own. -/
def Reg (w : World) (g : Nat) (r : Int) : Prop := w.cell? ⟨g, 0, none⟩ = some (.int .u32 r) ∧ w.frozen? ⟨g, 0, none⟩ = false

theorem reg_set {w : World} {g : Nat} {r : Int} (h : Reg w g r) (s : Int) : Reg (w.setCell ⟨g, 0, none⟩ (.int .u32 s)) g s ∧ w.grownBy (w.setCell ⟨g, 0, none⟩ (.int .u32 s)) (some g) := by
  refine ⟨⟨World.cell?_setCell_same w _ _ h.1, ?_⟩, ⟨rfl, rfl, rfl, by simp, fun k _ hk => heap_setCell_other w ⟨g, 0, none⟩ k _ (fun e => hk (by simp [e]))⟩⟩
  simpa using h.2

theorem xor_u32 (r c : Nat) (h : r < 4294967296) (hc : c < 4294967296) : bits .xor .u32 (r : Int) (c : Int) = ((r ^^^ c : Nat) : Int) := u32_xor_nat r c h hc
theorem xor_half32 (r : Nat) (h : r < 4294967296) : bits .xor .u32 ((r : Int) / 2) 3988292384 = ((r / 2 ^^^ 3988292384 : Nat) : Int) := by
  have e : ((r : Int) / 2) = ((r / 2 : Nat) : Int) := by omega
  rw [e]
  exact u32_xor_nat (r / 2) 3988292384 (by omega) (by omega)

set_option maxHeartbeats 1000000 in
theorem take_any (g r c : Nat) (w : World) (hreg : Reg w g (r : Int)) (hr : r < 4294967296) (hc : c < 256) :
    Calls Tryz.prog 139 #[.int .u8 (c : Int), .pointer (some ⟨g, 0, none⟩)] w fun e w' => e = .returned (.tuple #[]) ∧ Reg w' g (cits 8 (r ^^^ c) : Nat) ∧ w.grownBy w' (some g) := by
  have hx := xor_u32 r c hr (by omega)
  have h1 := hreg.1
  have h2 := hreg.2
  obtain ⟨X, hX⟩ : ∃ X, X = r ^^^ c := ⟨_, rfl⟩
  have hXl : X < 4294967296 := by rw [hX]; exact cxor_lt _ _ hr (by omega)
  rw [← hX] at hx ⊢
  have HS := reg_set hreg (X : Int)
  have HH : Hid (_ ∧ _) := HS
  clear hX HS
  go_enter Tryz.func139, Tryz.ntmps139
  go_wp2
  go_loopw [8] (fun i wr => ∃ j : Nat, j ≤ 8 ∧ i = .int .i64 j ∧ Reg wr g (cits j X : Nat) ∧ w.grownBy wr (some g)) (fun i _ => 8 - (intOf i).toNat)
  case atStart => exact ⟨0, Nat.zero_le _, rfl, HH.out.1, HH.out.2⟩
  case round =>
    obtain ⟨j, hj, rfl, hreg2, hgr⟩ := hrel
    have hYl := cits_lt j X hXl
    by_cases hjl : j < 8
    · have hY' : cits (j + 1) X = cstep (cits j X) := rfl
      obtain ⟨Y, hY⟩ : ∃ Y, Y = cits j X := ⟨_, rfl⟩
      rw [← hY] at hYl hY' hreg2
      have g1 := hreg2.1
      have g2 := hreg2.2
      have hand : bits .and .u32 (Y : Int) 1 = ((Y % 2 : Nat) : Int) := by
        have := u32_and_nat Y 1 hYl (by omega)
        rw [Nat.and_one_is_mod] at this
        exact this
      clear hY hx h1 h2
      by_cases hodd : Y % 2 = 1
      · have hxr := xor_half32 Y hYl
        rw [hodd] at hand
        rw [cstep_odd Y hodd] at hY'
        have s1 := reg_set hreg2 ((Y : Int) / 2)
        have s2 := reg_set s1.1 ((Y / 2 ^^^ 3988292384 : Nat) : Int)
        have HY : Hid (cits (j + 1) X = Y / 2 ^^^ 3988292384) := hY'
        have H1 : Hid (_ ∧ _) := s1
        have H2 : Hid (_ ∧ _) := s2
        clear hY' s1 s2
        go_wp2
        go_roundw
        case rel => exact ⟨j + 1, by omega, by go_num, by rw [HY.out]; exact H2.out.1, grownBy_trans hgr (grownBy_trans H1.out.2 H2.out.2)⟩
        case measure => simp [intOf]; omega
      · have hev : Y % 2 = 0 := by omega
        rw [hev] at hand
        rw [cstep_even Y hodd] at hY'
        have s1 := reg_set hreg2 ((Y : Int) / 2)
        have HY : Hid (cits (j + 1) X = Y / 2) := hY'
        have H1 : Hid (_ ∧ _) := s1
        clear hY' s1 hodd
        go_wp2
        go_roundw
        case rel => exact ⟨j + 1, by omega, by go_num, by rw [HY.out]; exact H1.out.1, grownBy_trans hgr H1.out.2⟩
        case measure => simp [intOf]; omega
    · have e : j = 8 := by omega
      subst e
      go_wp2
      go_end0
      exact ⟨rfl, hreg2, hgr⟩

set_option maxHeartbeats 1000000 in
theorem implCrc_any (a : Option Addr) (n cap : Nat) (zs : List Int) (w : World) (hl : Hid (zs.length = n)) (hr : Rd w a zs) (hn : n ≤ 2097152) :
    Calls Tryz.prog 130 #[.slice a n cap] w fun e w' => e = .returned (.int .i64 ((csum zs n ^^^ 4294967295 : Nat) : Int)) ∧ Below w.heap.size w w' := by
  have hz := hr.1
  go_enter Tryz.func130, Tryz.ntmps130
  go_wp2
  go_loopw [10] (fun i wr => ∃ k : Nat, k ≤ n ∧ i = .int .i64 k ∧ Reg wr w.heap.size (csum zs k : Nat) ∧ Below w.heap.size w wr) (fun i _ => n - (intOf i).toNat)
  case atStart => exact ⟨0, Nat.zero_le _, rfl, ⟨by simp; rfl, by simp⟩, (Below.refl _ _).alloc (Nat.le_refl _) _⟩
  case round =>
    obtain ⟨k, hk, rfl, hreg, hbel⟩ := hrel
    have hR := csum_lt zs hz k
    by_cases hlt : k < n
    · have hne : zs ≠ [] := by intro h; have := hl.out; subst h; simp at this; omega
      obtain ⟨b, off, rfl, hb, hc⟩ := hr.2.resolve_left hne
      obtain ⟨c, hce⟩ : ∃ c : Nat, zs[k]?.getD 0 = (c : Int) := Int.eq_ofNat_of_zero_le (hz k).1
      have hc255 : c ≤ 255 := by have := (hz k).2; omega
      have hcell : wr.cell? ⟨b, off + k, none⟩ = some (.int .u8 (c : Int)) := by rw [← hce]; exact (hbel.cell (p := ⟨b, off + k, none⟩) hb).trans (hc k (by have := hl.out; omega))
      have HS : Hid (csum zs (k + 1) = cits 8 (csum zs k ^^^ c)) := by show csum zs (k + 1) = _; rw [csum, hce]; rfl
      have hbs := hbel.size
      clear hce hc hz hne hr
      go_wp2_with (go_at_call 139; refine (take_any _ (csum zs k) c _ hreg hR (by omega)).mono ?_; rintro e w2 ⟨rfl, hreg2, hg2⟩)
      have hbel2 : Below w.heap.size w w2 := hbel.grown hg2 hbs (fun x h => by cases h; exact Nat.le_refl _)
      go_wp2
      go_roundw
      case rel => exact ⟨k + 1, by omega, by go_num, by rw [HS.out]; exact hreg2, hbel2⟩
      case measure => simp [intOf]; omega
    · have e : k = n := by omega
      subst e
      have g1 := hreg.1
      have hx : bits .xor .u32 IntKind.u32.max (csum zs k : Int) = ((csum zs k ^^^ 4294967295 : Nat) : Int) := by
        have h := u32_xor_nat 4294967295 (csum zs k) (by omega) hR
        rw [Nat.xor_comm] at h
        exact h
      have hxl : csum zs k ^^^ 4294967295 < 4294967296 := by
        have : csum zs k ^^^ 4294967295 < 2 ^ 32 := Nat.xor_lt_two_pow (by omega) (by omega)
        omega
      obtain ⟨X, hX⟩ : ∃ X, X = csum zs k ^^^ 4294967295 := ⟨_, rfl⟩
      rw [← hX] at hx hxl
      have HX : Hid (X = csum zs k ^^^ 4294967295) := hX
      have hw : wrap64 (X : Int) = (X : Int) := IntWalk.wrap64_in _ ⟨by omega, by omega⟩
      clear hX
      go_wp2
      go_ret
      exact ⟨by rw [← HX.out]; rfl, hbel⟩

end Go.Proofs.YtkfmpfbhhmmllaaGreat

/- FrI: frameSum and FrameBytes of the program. By program (frgen.py). -/
namespace Go.Proofs.YtkfmpfbhhmmllaaGreat
open Go.RowKit
set_option linter.unusedVariables false
set_option maxRecDepth 100000
set_option linter.unusedSimpArgs false

theorem below_bytes (w : World) (s : ByteArray) : Below w.heap.size w (Lib.bytesWorld w 5 s) :=
  ⟨rfl, rfl, rfl, by rw [Lib.bytesWorld_size]; omega, fun j hj => Lib.bytesWorld_at_old w 5 s j hj⟩

theorem src_text (w : World) (s : ByteArray) (c : Nat) : Src (Lib.bytesWorld w 5 s) (.slice (some ⟨w.heap.size, 0, none⟩) s.size c) s.size ((sB s).map (Value.int .u8)) := by
  refine .inr ⟨_, c, rfl, fun j u hu => ?_⟩
  have hj : j < s.size := by
    have := (List.getElem?_eq_some_iff.1 hu).1
    rw [List.length_map, sB_len] at this
    exact this
  have e : (⟨w.heap.size, 0, none⟩ : Addr).add j = ⟨w.heap.size, j, none⟩ := by cases j <;> simp [Addr.add]
  rw [e, Lib.bytesWorld_cell w 5 s j hj, ← hu]
  have hj' : j < s.data.toList.length := by rw [Array.length_toList]; exact hj
  simp [sB, List.getD_eq_getElem?_getD, List.getElem?_eq_getElem hj']

set_option maxRecDepth 100000 in
set_option maxHeartbeats 2000000 in
theorem frameSum_any (a : Option Addr) (n c : Nat) (zs : List Int) (y : Value) (m : Nat) (ts : List Int) (w : World) (hl : Hid (zs.length = n)) (hr : Rd w a zs) (hs : Src w y m (ts.map (Value.int .u8))) (htl : Hid (ts.length = m))
    (hbt : Hid (Byt ts)) (hn0 : 0 < n) (hn : n + m ≤ 1048576) :
    Calls Tryz.prog 115 #[.slice a n c, y] w fun e w' => e = .returned (.int .i64 (crcI (zs ++ ts))) ∧ Below w.heap.size w w' := by
  obtain ⟨i0, hi, hz0, hz1, hz2⟩ := info_parts Tryz.infoB
  have hbz : Hid (Byt zs) := hr.1
  obtain ⟨C, hC⟩ : ∃ C, C = crcI (zs ++ ts) := ⟨_, rfl⟩
  have hcl : (zs ++ ts).length = n + m := by rw [List.length_append, hl.out, htl.out]
  have qC : Hid (∀ w' v, w'.ownsRow 0 5 1 v (n + m) (zs.map (Value.int .u8) ++ ts.map (Value.int .u8)) → Calls Tryz.prog 130 #[v] w' fun e w'' => e = .returned (.int .i64 C) ∧ Below w'.heap.size w' w'') := fun w' v ho => by
    obtain ⟨g, cap, rfl, _⟩ := own_form ho (by omega)
    rw [← List.map_append] at ho
    refine (implCrc_any _ _ cap _ w' hcl (rd_own hcl (byt_append hbz.out hbt.out) ho) (by omega)).mono ?_
    rintro e w'' ⟨rfl, hb⟩
    exact ⟨by rw [hC, crcI, hcl], hb⟩
  have qK : Hid (Calls Tryz.prog 101 #[.slice a n c] w fun e w' => ∃ v, e = .returned v ∧ w'.ownsRow w.heap.size 5 1 v n (zs.map (Value.int .u8)) ∧ Below w.heap.size w w') := clone_any a n c zs w hl hr (by omega)
  have HS : Hid (Src w y m (ts.map (Value.int .u8))) := hs
  rw [← hC]
  clear hr hs hC hcl
  go_enter Tryz.func115, Tryz.ntmps115
  go_wp2_with fail
  refine qK.out.mono ?_
  rintro e w1 ⟨v1, rfl, o1, b1⟩
  have b1s := b1.size
  go_wp2_with (at_builtin; refine wpList_append_src rfl _ _ 55 rfl w.heap.size 5 i0 (.int .u8 0) 1 1 Tryz.underlying55 hi hz0 hz1 hz2 rfl (by decide) v1 n (zs.map (Value.int .u8)) rfl o1 y m (ts.map (Value.int .u8)) rfl ?c0 ?c1 ?c2 ?c3 ?c4 ?c5 ?_)
  case c0 => rw [List.length_map, htl.out]; omega
  case c1 => exact src_later HS.out b1
  case c2 => exact ints_oneCell _ _
  case c3 => unfold maxLen; omega
  case c4 => omega
  case c5 => exact b1s
  intro v2 w2 o2 gr2
  have b2 : Below w.heap.size w w2 := b1.grown gr2 b1s (fun k h => (o1.lt k h).1)
  clear gr2 o1
  go_wp2_with fail
  refine (qC.out _ _ (own_base0 o2)).mono ?_
  rintro e w3 ⟨rfl, hb3⟩
  have b3 := b2.trans (hb3.mono b2.size)
  clear o2
  go_wp2
  go_ret
  exact ⟨rfl, b3⟩

set_option maxRecDepth 100000 in
set_option maxHeartbeats 2000000 in
theorem implFrame_no (x0 : Int) (x1 : ByteArray) (w : World) (h1 : x1.size ≤ maxLen) (hB : entB x0 x1.size = false) :
    Calls Tryz.prog 103 #[.agg #[.int .i64 x0, .string x1]] w fun e w' => e = .returned (.tuple #[.slice none 0 0, .bool false]) ∧ Below w.heap.size w w' := by
  have qE : Hid (∀ w', Calls Tryz.prog 65 #[.agg #[.int .i64 x0, .string x1]] w' fun e w'' => e = .returned (.bool false) ∧ Below w'.heap.size w' w'') := fun w' => by rw [← hB]; exact implEnt_any _ _ w' h1
  clear hB
  obtain ⟨W0, hW0⟩ : ∃ W0, W0 = w.alloc (.cells #[.int .i64 x0, .string x1] 71) := ⟨_, rfl⟩
  have bW0 : Below w.heap.size w W0 := by rw [hW0]; exact (Below.refl _ _).alloc (Nat.le_refl _) _
  have hbox : W0.heap[w.heap.size]? = some (.cells #[.int .i64 x0, .string x1] 71 (0, 0)) := by rw [hW0]; exact heap_alloc_new w _
  have zlt0 : w.heap.size < W0.heap.size := by rw [hW0]; simp
  have HW0 : Hid (W0 = w.alloc (.cells #[.int .i64 x0, .string x1] 71)) := hW0
  have BX : Hid (∀ w', Below W0.heap.size W0 w' → w'.cell? ⟨w.heap.size, 0, none⟩ = some (.int .i64 x0) ∧ w'.cell? ⟨w.heap.size, 1, none⟩ = some (.string x1)) := fun w' h' => by
    have i := (h'.block _ zlt0).trans hbox
    exact ⟨box_cell i rfl, box_cell i rfl⟩
  obtain ⟨v0, v1⟩ := BX.out W0 (Below.refl _ _)
  clear hW0 hbox
  go_enter Tryz.func103, Tryz.ntmps103
  go_wp2_with fail
  rw [← HW0.out]
  refine (qE.out _).mono ?_
  rintro e w1 ⟨rfl, hb1⟩
  have b1 := bW0.trans (hb1.mono bW0.size)
  clear v0 v1
  go_wp2
  go_ret2
  exact ⟨rfl, b1⟩

set_option maxRecDepth 100000 in
set_option maxHeartbeats 4000000 in
theorem implFrame_yes (x0 : Int) (x1 : ByteArray) (w : World) (hB : entB x0 x1.size = true) :
    Calls Tryz.prog 103 #[.agg #[.int .i64 x0, .string x1]] w fun e w' => ∃ v, e = .returned (.tuple #[v, .bool true]) ∧
      w'.ownsRow w.heap.size 5 1 v (10 + x1.size) ((frameL x0 (sB x1)).map (Value.int .u8)) ∧ Below w.heap.size w w' := by
  obtain ⟨i0, hi, hz0, hz1, hz2⟩ := info_parts Tryz.infoB
  have hb := (entB_iff _ _).1 hB
  have hlen : x1.size ≤ 1000 := hb.2.2.2
  have qE : Hid (∀ w', Calls Tryz.prog 65 #[.agg #[.int .i64 x0, .string x1]] w' fun e w'' => e = .returned (.bool true) ∧ Below w'.heap.size w' w'') := fun w' => by rw [← hB]; exact implEnt_any _ _ w' (by unfold maxLen; omega)
  have q2 : Hid (∀ w', Calls Tryz.prog 114 #[.slice none 0 0, .int .i64 (x1.size : Int), .int .i64 2] w' fun e w'' => ∃ v, e = .returned (.tuple #[v, .bool true]) ∧ w''.ownsRow w'.heap.size 5 1 v 2 ((pdig x1.size 2 2).map (Value.int .u8)) ∧ Below w'.heap.size w' w'') := fun w' =>
    implPut_src none 0 0 [] (x1.size : Int) 2 w' rfl (src_nil _) (by omega) (by omega) (by omega) (by simp [pw]; omega) (by omega)
  have q3 : Hid (∀ w' g c, w'.ownsRow 0 5 1 (.slice (some ⟨g, 0, none⟩) 2 c) 2 ((pdig x1.size 2 2).map (Value.int .u8)) → Calls Tryz.prog 114 #[.slice (some ⟨g, 0, none⟩) 2 c, .int .i64 x0, .int .i64 4] w' fun e w'' => ∃ v, e = .returned (.tuple #[v, .bool true]) ∧ w''.ownsRow w'.heap.size 5 1 v 6 ((headL x0 x1.size).map (Value.int .u8)) ∧ Below w'.heap.size w' w'') := fun w' g c ho =>
    implPut_src (some ⟨g, 0, none⟩) 2 c (pdig x1.size 2 2) x0 4 w' (pdig_len _ _ _) (src_own ho) (by omega) (by omega) (by omega) (by simp [pw]; omega) (by omega)
  obtain ⟨C, hC⟩ : ∃ C, C = crcI (headL x0 x1.size ++ sB x1) := ⟨_, rfl⟩
  have hCb := crcI_bd (headL x0 x1.size ++ sB x1) (byt_append (byt_headL _ _) (byt_sB _))
  rw [← hC] at hCb
  have qC : Hid (∀ w' g c y, w'.ownsRow 0 5 1 (.slice (some ⟨g, 0, none⟩) 6 c) 6 ((headL x0 x1.size).map (Value.int .u8)) → Src w' y x1.size ((sB x1).map (Value.int .u8)) → Calls Tryz.prog 115 #[.slice (some ⟨g, 0, none⟩) 6 c, y] w' fun e w'' => e = .returned (.int .i64 C) ∧ Below w'.heap.size w' w'') := fun w' g c y ho hs => by
    rw [hC]
    exact frameSum_any _ 6 c (headL x0 x1.size) y x1.size (sB x1) w' (headL_len _ _) (rd_own (headL_len _ _) (byt_headL _ _) ho) hs (sB_len _) (byt_sB _) (by omega) (by omega)
  have q5 : Hid (∀ w' g c, w'.ownsRow 0 5 1 (.slice (some ⟨g, 0, none⟩) 6 c) 6 ((headL x0 x1.size).map (Value.int .u8)) → Calls Tryz.prog 114 #[.slice (some ⟨g, 0, none⟩) 6 c, .int .i64 C, .int .i64 4] w' fun e w'' => ∃ v, e = .returned (.tuple #[v, .bool true]) ∧ w''.ownsRow w'.heap.size 5 1 v 10 ((headL x0 x1.size ++ pdig C 4 4).map (Value.int .u8)) ∧ Below w'.heap.size w' w'') := fun w' g c ho =>
    implPut_src (some ⟨g, 0, none⟩) 6 c (headL x0 x1.size) C 4 w' (headL_len _ _) (src_own ho) (by omega) (by omega) (by omega) (by simp [pw]; omega) (by omega)
  have hF : Hid ((frameL x0 (sB x1)).map (Value.int .u8) = (headL x0 x1.size ++ pdig C 4 4).map (Value.int .u8) ++ (sB x1).map (Value.int .u8)) := by
    show _ = _
    rw [hC, ← List.map_append]
    unfold frameL
    rw [sB_len]
  obtain ⟨T, hT⟩ : ∃ T, T = (sB x1).map (Value.int .u8) := ⟨_, rfl⟩
  have hT1 : ∀ u ∈ T, u.oneCell' = true := by rw [hT]; exact ints_oneCell _ _
  have hTl : T.length = x1.size := by rw [hT, List.length_map, sB_len]
  have qT : Hid (∀ w' c, Src (Lib.bytesWorld w' 5 x1) (.slice (some ⟨w'.heap.size, 0, none⟩) x1.size c) x1.size T) := fun w' c => by rw [hT]; exact src_text w' x1 c
  have qB : Hid (∀ w', Below w'.heap.size w' (Lib.bytesWorld w' 5 x1)) := fun w' => below_bytes w' x1
  rw [← hT] at hF qC
  obtain ⟨H6, hH6⟩ : ∃ H, H = (headL x0 x1.size).map (Value.int .u8) := ⟨_, rfl⟩
  rw [← hH6] at q3 q5 qC
  clear hB hb hC hH6 hT
  obtain ⟨W0, hW0⟩ : ∃ W0, W0 = w.alloc (.cells #[.int .i64 x0, .string x1] 71) := ⟨_, rfl⟩
  have bW0 : Below w.heap.size w W0 := by rw [hW0]; exact (Below.refl _ _).alloc (Nat.le_refl _) _
  have hbox : W0.heap[w.heap.size]? = some (.cells #[.int .i64 x0, .string x1] 71 (0, 0)) := by rw [hW0]; exact heap_alloc_new w _
  have zlt0 : w.heap.size < W0.heap.size := by rw [hW0]; simp
  have HW0 : Hid (W0 = w.alloc (.cells #[.int .i64 x0, .string x1] 71)) := hW0
  have BX : Hid (∀ w', Below W0.heap.size W0 w' → w'.cell? ⟨w.heap.size, 0, none⟩ = some (.int .i64 x0) ∧ w'.cell? ⟨w.heap.size, 1, none⟩ = some (.string x1)) := fun w' h' => by
    have i := (h'.block _ zlt0).trans hbox
    exact ⟨box_cell i rfl, box_cell i rfl⟩
  obtain ⟨v0, v1⟩ := BX.out W0 (Below.refl _ _)
  clear hW0 hbox
  go_enter Tryz.func103, Tryz.ntmps103
  go_wp2_with fail
  rw [← HW0.out]
  refine (qE.out _).mono ?_
  rintro e w1 ⟨rfl, d1⟩
  obtain ⟨y0, y1⟩ := BX.out w1 d1
  clear v0 v1
  have hcv := Lib.run_convert_string_bytes (P := Tryz.prog) w1 9 55 5 x1 Tryz.underlying9 Tryz.underlying55 Tryz.underlying5
  obtain ⟨cp, hcp⟩ : ∃ cp, cp = grownCap w1 x1.size 0 5 := ⟨_, rfl⟩
  obtain ⟨wb, hwb⟩ : ∃ wb, wb = Lib.bytesWorld w1 5 x1 := ⟨_, rfl⟩
  rw [← hcp, ← hwb] at hcv
  have sb : Src wb (.slice (some ⟨w1.heap.size, 0, none⟩) x1.size cp) x1.size T := by rw [hwb]; exact qT.out w1 cp
  have hbb : Below w1.heap.size w1 wb := by rw [hwb]; exact qB.out w1
  clear hcp hwb
  obtain ⟨tx, htx⟩ : ∃ tx, tx = Value.slice (some ⟨w1.heap.size, 0, none⟩) x1.size cp := ⟨_, rfl⟩
  have db := d1.trans (hbb.mono d1.size)
  have SB : Hid (Src wb (.slice (some ⟨w1.heap.size, 0, none⟩) x1.size cp) x1.size T) := sb
  clear htx sb
  go_wp2_with fail
  clear hcv y0 y1
  refine (q2.out _).mono ?_
  rintro e w2 ⟨v2, rfl, o2, hb2⟩
  have bb2 := hb2
  have d2 := db.trans (hb2.mono db.size)
  obtain ⟨g2, c2, rfl, hg2, hl2⟩ := own_form o2 (by omega)
  have o2' := own_base o2 (Nat.zero_le _)
  clear hb2 o2 hg2 hl2
  obtain ⟨y0, y1⟩ := BX.out w2 d2
  go_wp2_with fail
  refine (q3.out _ _ _ o2').mono ?_
  rintro e w3 ⟨v3, rfl, o3, hb3⟩
  have bb3 := bb2.trans (hb3.mono bb2.size)
  have d3 := d2.trans (hb3.mono d2.size)
  obtain ⟨g3, c3, rfl, hg3, hl3⟩ := own_form o3 (by omega)
  have o3' := own_base o3 (Nat.zero_le _)
  have O3 : Hid (w3.ownsRow 0 5 1 (.slice (some ⟨g3, 0, none⟩) 6 c3) 6 H6) := o3'
  clear y0 y1 hb3 o2' o3 hg3 o3' bb2
  go_wp2_with fail
  refine (qC.out _ _ _ _ O3.out (src_later SB.out bb3)).mono ?_
  rintro e w4 ⟨rfl, hb4⟩
  have d4 := d3.trans (hb4.mono d3.size)
  have bb4 := bb3.trans (hb4.mono bb3.size)
  go_wp2_with fail
  refine (q5.out _ _ _ (own_later O3.out hb4)).mono ?_
  rintro e w5 ⟨v5, rfl, o5, hb5⟩
  have d5 := d4.trans (hb5.mono d4.size)
  have bb5 := bb4.trans (hb5.mono bb4.size)
  have hsz := (bW0.trans (d4.mono bW0.size)).size
  go_wp2_with (at_builtin; refine wpList_append_src rfl _ _ 55 rfl w4.heap.size 5 i0 (.int .u8 0) 1 1 Tryz.underlying55 hi hz0 hz1 hz2 rfl (by decide) v5 10 _ rfl o5 (.slice (some ⟨w1.heap.size, 0, none⟩) x1.size cp) x1.size T rfl ?c0 ?c1 ?c2 ?c3 ?c4 ?c5 ?_)
  case c0 => omega
  case c1 => exact src_later SB.out bb5
  case c2 => exact hT1
  case c3 => unfold maxLen; omega
  case c4 => omega
  case c5 => exact hb5.size
  intro v6 w6 o6 gr6
  have b5 : Below w.heap.size w w5 := bW0.trans (d5.mono bW0.size)
  have b6 : Below w.heap.size w w6 := b5.grown gr6 b5.size (fun k h => by have := (o5.lt k h).1; omega)
  have o6' : w6.ownsRow w4.heap.size 5 1 v6 (10 + x1.size) ((frameL x0 (sB x1)).map (Value.int .u8)) := by rw [hF.out]; simpa [List.append_assoc] using o6
  have o7 := own_lower o6' hsz
  clear gr6 o5 o6 o6'
  go_wp2
  go_ret2
  exact ⟨_, rfl, o7, b6⟩

end Go.Proofs.YtkfmpfbhhmmllaaGreat

/- NeedI: need of the program: it gives up with its fault, or returns. -/
namespace Go.Proofs.YtkfmpfbhhmmllaaGreat
open Go.RowKit
set_option linter.unusedVariables false
set_option maxRecDepth 100000

theorem need_yes (k : Int) (w : World) :
    Calls Tryz.prog 131 #[.bool true, .int .i64 k] w fun e w' => e = .returned (.tuple #[]) ∧ w' = w := by
  go_enter Tryz.func131, Tryz.ntmps131
  go_wp2
  go_returns
  exact ⟨rfl, rfl⟩

theorem need_no (k : Int) (w : World) :
    Calls Tryz.prog 131 #[.bool false, .int .i64 k] w fun e w' => e = .panicked [{ v := .iface 146 (.int .i64 k), recovered := false }] ∧ w' = w := by
  go_enter Tryz.func131, Tryz.ntmps131
  go_wp2
  exact ⟨rfl, rfl, rfl⟩

end Go.Proofs.YtkfmpfbhhmmllaaGreat

/- RiN: readFrame of the program: the codes 1 and 2. By program (rigen.py). -/
namespace Go.Proofs.YtkfmpfbhhmmllaaGreat
open Go.RowKit
set_option linter.unusedVariables false
set_option maxRecDepth 100000
set_option linter.unusedSimpArgs false

set_option maxRecDepth 100000 in
set_option maxHeartbeats 4000000 in
theorem readRf_near (a : Option Addr) (n c : Nat) (p : Int) (w : World) (hn : n ≤ 1048576) (hp1 : -9223372036854775808 ≤ p) (hp2 : p ≤ 9223372036854775807) (k : Int)
    (h : (p < 0 ∧ k = 1) ∨ (¬ p < 0 ∧ (n : Int) < p ∧ k = 1) ∨ (¬ p < 0 ∧ ¬ (n : Int) < p ∧ (n : Int) - p < 10 ∧ k = 2)) :
    Calls Tryz.prog 117 #[.slice a n c, .int .i64 p] w fun e w' => e = .panicked [{ v := .iface 146 (.int .i64 k), recovered := false }] ∧ Below w.heap.size w w' := by
  have bW0 : Below w.heap.size w (w.alloc (.cells #[.int .i64 0, .string ⟨#[]⟩] 71)) := (Below.refl _ _).alloc (Nat.le_refl _) _
  rcases h with ⟨h1, rfl⟩ | ⟨h1, h2, rfl⟩ | ⟨h1, h2, h3, rfl⟩
  · have e1 : decide ((0 : Int) ≤ p) = false := by simp; omega
    have e2 : ¬ (0 : Int) ≤ p := by omega
    go_enter Tryz.func117, Tryz.ntmps117
    go_wp2_with fail
    refine (need_no 1 _).mono ?_
    rintro e w9 ⟨rfl, rfl⟩
    go_wp2_with fail
    exact ⟨rfl, rfl, bW0⟩
  · have e1 : (0 : Int) ≤ p := by omega
    have e2 : decide (p ≤ (n : Int)) = false := by simp; omega
    have e3 : ¬ p ≤ (n : Int) := by omega
    go_enter Tryz.func117, Tryz.ntmps117
    go_wp2_with fail
    refine (need_no 1 _).mono ?_
    rintro e w9 ⟨rfl, rfl⟩
    go_wp2_with fail
    exact ⟨rfl, rfl, bW0⟩
  · have e1 : (0 : Int) ≤ p := by omega
    have e2 : p ≤ (n : Int) := by omega
    have e3 : ¬ (10 : Int) ≤ (n : Int) - p := by omega
    have e4 : decide ((10 : Int) ≤ (n : Int) - p) = false := by simp; omega
    go_enter Tryz.func117, Tryz.ntmps117
    go_wp2_with fail
    refine (need_yes 1 _).mono ?_
    rintro e w9 ⟨rfl, rfl⟩
    go_wp2_with fail
    refine (need_no 2 _).mono ?_
    rintro e w9 ⟨rfl, rfl⟩
    go_wp2_with fail
    exact ⟨rfl, rfl, bW0⟩

end Go.Proofs.YtkfmpfbhhmmllaaGreat

/- RiF3: readFrame of the program: the code 3. By program (rigen.py). -/
namespace Go.Proofs.YtkfmpfbhhmmllaaGreat
open Go.RowKit
set_option linter.unusedVariables false
set_option maxRecDepth 100000
set_option linter.unusedSimpArgs false

set_option maxRecDepth 100000 in
set_option maxHeartbeats 1500000 in
theorem readRf_3 (b off n c : Nat) (zs : List Int) (P s : Nat) (num : Int) (w : World) (hl : zs.length = n) (hb : b < w.heap.size) (hc : ∀ i, i < n → w.cell? ⟨b, off + i, none⟩ = some (.int .u8 (zs[i]?.getD 0))) (hz : Byt zs)
    (hcn : n ≤ c) (hcm : c ≤ maxLen) (hn : n ≤ 1048576) (hP : P + 10 ≤ n) (hs : gnum zs P 2 = (s : Int)) (hnum : gnum zs (P + 2) 4 = num) (h3 : s = 0 ∨ 1000 < s) :
    Calls Tryz.prog 117 #[.slice (some ⟨b, off, none⟩) n c, .int .i64 (P : Int)] w fun e w' => e = .panicked [{ v := .iface 146 (.int .i64 3), recovered := false }] ∧ Below w.heap.size w w' := by
  unfold maxLen at hcm
  have HC : Hid (∀ w', Below w.heap.size w w' → ∀ i, i < n → w'.cell? ⟨b, off + i, none⟩ = some (.int .u8 (zs[i]?.getD 0))) := fun w' hb' i hi => (hb'.cell (p := ⟨b, off + i, none⟩) hb).trans (hc i hi)
  have HH : Hid (∀ w', Below w.heap.size w w' → Rd w' (some ⟨b, off + P, none⟩) (cutL zs P 10)) := fun w' hb' => rd_cut (Nat.lt_of_lt_of_le hb hb'.size) hz hl (HC.out w' hb') P 10 (by omega)
  have hl10 : (cutL zs P 10).length = 10 := cutL_len _ _ _ (by omega)
  have g1 : Hid (∀ w' cp, Below w.heap.size w w' → Calls Tryz.prog 132 #[.slice (some ⟨b, off + P, none⟩) 10 cp, .int .i64 0, .int .i64 2] w' fun e w'' => e = .returned (.tuple #[.int .i64 (s : Int), .bool true]) ∧ w'' = w') := fun w' cp hb' => by
    rw [← hs, show gnum zs P 2 = gnum (cutL zs P 10) 0 2 from (gnum_cut zs P 10 0 2 (by omega)).symm]; exact implGet_yes _ 10 cp _ 0 2 w' hl10 (HH.out w' hb') (by omega) (by omega) (by omega) (by omega)
  have g2 : Hid (∀ w' cp, Below w.heap.size w w' → Calls Tryz.prog 132 #[.slice (some ⟨b, off + P, none⟩) 10 cp, .int .i64 2, .int .i64 4] w' fun e w'' => e = .returned (.tuple #[.int .i64 num, .bool true]) ∧ w'' = w') := fun w' cp hb' => by
    rw [← hnum, show gnum zs (P + 2) 4 = gnum (cutL zs P 10) 2 4 from (gnum_cut zs P 10 2 4 (by omega)).symm]; exact implGet_yes _ 10 cp _ 2 4 w' hl10 (HH.out w' hb') (by omega) (by omega) (by omega) (by omega)
  have hnb := gnum4_bd zs hz (P + 2)
  rw [hnum] at hnb
  obtain ⟨A, hA⟩ : ∃ A : Nat, A = P + 10 := ⟨_, rfl⟩
  have a1 : (P : Int) + 10 = (A : Int) := by omega
  have aw1 : IntKind.i64.wrap (A : Int) = (A : Int) := wrap_i64_in _ (by omega) (by omega)
  have a2 : A - P = 10 := by omega
  have a3 : A ≤ n := by omega
  have a4 : A ≤ c := by omega
  have a5 : ¬ c < A := by omega
  have a6 : P ≤ A := by omega
  have a7 : ¬ c = P := by omega
  have a8 : ¬ A = P := by omega
  have t1 : (0 : Int) ≤ (P : Int) := by omega
  have t2 : (P : Int) ≤ (n : Int) := by omega
  have t3 : (10 : Int) ≤ (n : Int) - (P : Int) := by omega
  have bW0 : Below w.heap.size w (w.alloc (.cells #[.int .i64 0, .string ⟨#[]⟩] 71)) := (Below.refl _ _).alloc (Nat.le_refl _) _
  have bD : Below w.heap.size w (w.alloc (.cells #[.int .i64 0, .string ⟨#[]⟩] 71)).drew := bW0.drew
  have qT : Hid (∀ w', Calls Tryz.prog 100 #[.int .i64 (s : Int)] w' fun e w'' => e = .returned (.bool false) ∧ w'' = w') := fun w' => by
    have := textSizeOk_any (s : Int) w'
    rwa [show (decide ((1 : Int) ≤ (s : Int)) && decide ((s : Int) ≤ 1000)) = false by simp; omega] at this
  clear HC HH hl10 hc hl hz hs hnum hA g2
  by_cases hcA : c = A
  · have hcA' : c - A = 0 := by omega
    have hz0 : n - A = 0 := by omega
    go_enter Tryz.func117, Tryz.ntmps117
    go_wp2_with fail
    refine (need_yes 1 _).mono ?_
    rintro e w9 ⟨rfl, rfl⟩
    go_wp2_with fail
    refine (need_yes 2 _).mono ?_
    rintro e w9 ⟨rfl, rfl⟩
    go_wp2_with fail
    refine wp_region_held_drew (S := fun w' => True) (by kernel_rfl) trivial (fun hHeld => ?_)
    refine wpAnyH_take (i := 0) (v := .slice (some ⟨b, off, none⟩) n c) rfl (by kernel_rfl) (by kernel_rfl) (by kernel_rfl) (fun _ _ _ h => h) (Or.inl ⟨by kernel_rfl, ?_⟩) (by assumption) ?_
    · intro w9 hSw; (try dsimp only at hSw); go_simp
    simp only [Act.put, List.getElem_toArray, List.getElem_cons_succ, List.getElem_cons_zero, List.setIfInBounds_toArray, List.set_cons_zero, List.set_cons_succ]
    refine wpAnyH_take (i := 1) (v := .int .i64 P) rfl (by kernel_rfl) (by kernel_rfl) (by kernel_rfl) (fun _ _ _ h => h) (Or.inl ⟨by kernel_rfl, ?_⟩) (by assumption) ?_
    · intro w9 hSw; (try dsimp only at hSw); go_simp
    simp only [Act.put, List.getElem_toArray, List.getElem_cons_succ, List.getElem_cons_zero, List.setIfInBounds_toArray, List.set_cons_zero, List.set_cons_succ]
    refine wpAnyH_take (i := 2) (v := .int .i64 P) rfl (by kernel_rfl) (by kernel_rfl) (by kernel_rfl) (fun _ _ _ h => h) (Or.inl ⟨by kernel_rfl, ?_⟩) (by assumption) ?_
    · intro w9 hSw; (try dsimp only at hSw); go_simp
    simp only [Act.put, List.getElem_toArray, List.getElem_cons_succ, List.getElem_cons_zero, List.setIfInBounds_toArray, List.set_cons_zero, List.set_cons_succ]
    refine wpAnyH_take (i := 3) (v := .int .i64 A) rfl (by kernel_rfl) (by kernel_rfl) (by kernel_rfl) (fun _ _ _ h => h) (Or.inl ⟨by kernel_rfl, ?_⟩) (by assumption) ?_
    · intro w9 hSw; (try dsimp only at hSw); go_simp
    simp only [Act.put, List.getElem_toArray, List.getElem_cons_succ, List.getElem_cons_zero, List.setIfInBounds_toArray, List.set_cons_zero, List.set_cons_succ]
    refine wpAnyH_take (i := 4) (v := .slice (some ⟨b, off + P, none⟩) 10 (c - P)) rfl (by kernel_rfl) (by kernel_rfl) (by kernel_rfl) (fun _ _ _ h => h) (Or.inl ⟨by kernel_rfl, ?_⟩) (by assumption) ?_
    · intro w9 hSw; (try dsimp only at hSw); go_simp
    simp only [Act.put, List.getElem_toArray, List.getElem_cons_succ, List.getElem_cons_zero, List.setIfInBounds_toArray, List.set_cons_zero, List.set_cons_succ]
    refine wpAnyH_take (i := 5) (v := .slice (some ⟨b, off, none⟩) n c) rfl (by kernel_rfl) (by kernel_rfl) (by kernel_rfl) (fun _ _ _ h => h) (Or.inl ⟨by kernel_rfl, ?_⟩) (by assumption) ?_
    · intro w9 hSw; (try dsimp only at hSw); go_simp
    simp only [Act.put, List.getElem_toArray, List.getElem_cons_succ, List.getElem_cons_zero, List.setIfInBounds_toArray, List.set_cons_zero, List.set_cons_succ]
    refine wpAnyH_take (i := 6) (v := .int .i64 P) rfl (by kernel_rfl) (by kernel_rfl) (by kernel_rfl) (fun _ _ _ h => h) (Or.inl ⟨by kernel_rfl, ?_⟩) (by assumption) ?_
    · intro w9 hSw; (try dsimp only at hSw); go_simp
    simp only [Act.put, List.getElem_toArray, List.getElem_cons_succ, List.getElem_cons_zero, List.setIfInBounds_toArray, List.set_cons_zero, List.set_cons_succ]
    refine wpAnyH_take (i := 7) (v := .int .i64 A) rfl (by kernel_rfl) (by kernel_rfl) (by kernel_rfl) (fun _ _ _ h => h) (Or.inl ⟨by kernel_rfl, ?_⟩) (by assumption) ?_
    · intro w9 hSw; (try dsimp only at hSw); go_simp
    simp only [Act.put, List.getElem_toArray, List.getElem_cons_succ, List.getElem_cons_zero, List.setIfInBounds_toArray, List.set_cons_zero, List.set_cons_succ]
    refine wpAnyH_take (i := 8) (v := .slice (some ⟨b, off, none⟩) (n - A) 0) rfl (by kernel_rfl) (by kernel_rfl) (by kernel_rfl) (fun _ _ _ h => h) (Or.inl ⟨by kernel_rfl, ?_⟩) (by assumption) ?_
    · intro w9 hSw; (try dsimp only at hSw); go_simp
    simp only [Act.put, List.getElem_toArray, List.getElem_cons_succ, List.getElem_cons_zero, List.setIfInBounds_toArray, List.set_cons_zero, List.set_cons_succ]
    refine wpAnyH_take (i := 9) (v := .slice (some ⟨b, off + P, none⟩) 10 (c - P)) rfl (by kernel_rfl) (by kernel_rfl) (by kernel_rfl) (fun _ _ _ h => h) (Or.inl ⟨by kernel_rfl, ?_⟩) (by assumption) ?_
    · intro w9 hSw; (try dsimp only at hSw); go_simp
    simp only [Act.put, List.getElem_toArray, List.getElem_cons_succ, List.getElem_cons_zero, List.setIfInBounds_toArray, List.set_cons_zero, List.set_cons_succ]
    refine wpAnyH_take (i := 10) (v := .slice (some ⟨b, off, none⟩) (n - A) 0) rfl (by kernel_rfl) (by kernel_rfl) (by kernel_rfl) (fun _ _ _ h => h) (Or.inl ⟨by kernel_rfl, ?_⟩) (by assumption) ?_
    · intro w9 hSw; (try dsimp only at hSw); go_simp
    simp only [Act.put, List.getElem_toArray, List.getElem_cons_succ, List.getElem_cons_zero, List.setIfInBounds_toArray, List.set_cons_zero, List.set_cons_succ]
    refine wpAnyH_done (by kernel_rfl) ?_ _
    go_wp2_with fail
    refine (g1.out _ _ bD).mono ?_
    rintro e w1 ⟨rfl, rfl⟩
    go_wp2_with fail
    refine (qT.out _).mono ?_
    rintro e w1 ⟨rfl, rfl⟩
    go_wp2_with fail
    refine (need_no 3 _).mono ?_
    rintro e w9 ⟨rfl, rfl⟩
    go_wp2_with fail
    exact ⟨rfl, rfl, bD⟩
  · go_enter Tryz.func117, Tryz.ntmps117
    go_wp2_with fail
    refine (need_yes 1 _).mono ?_
    rintro e w9 ⟨rfl, rfl⟩
    go_wp2_with fail
    refine (need_yes 2 _).mono ?_
    rintro e w9 ⟨rfl, rfl⟩
    go_wp2_with fail
    refine wp_region_held_drew (S := fun w' => True) (by kernel_rfl) trivial (fun hHeld => ?_)
    refine wpAnyH_take (i := 0) (v := .slice (some ⟨b, off, none⟩) n c) rfl (by kernel_rfl) (by kernel_rfl) (by kernel_rfl) (fun _ _ _ h => h) (Or.inl ⟨by kernel_rfl, ?_⟩) (by assumption) ?_
    · intro w9 hSw; (try dsimp only at hSw); go_simp
    simp only [Act.put, List.getElem_toArray, List.getElem_cons_succ, List.getElem_cons_zero, List.setIfInBounds_toArray, List.set_cons_zero, List.set_cons_succ]
    refine wpAnyH_take (i := 1) (v := .int .i64 P) rfl (by kernel_rfl) (by kernel_rfl) (by kernel_rfl) (fun _ _ _ h => h) (Or.inl ⟨by kernel_rfl, ?_⟩) (by assumption) ?_
    · intro w9 hSw; (try dsimp only at hSw); go_simp
    simp only [Act.put, List.getElem_toArray, List.getElem_cons_succ, List.getElem_cons_zero, List.setIfInBounds_toArray, List.set_cons_zero, List.set_cons_succ]
    refine wpAnyH_take (i := 2) (v := .int .i64 P) rfl (by kernel_rfl) (by kernel_rfl) (by kernel_rfl) (fun _ _ _ h => h) (Or.inl ⟨by kernel_rfl, ?_⟩) (by assumption) ?_
    · intro w9 hSw; (try dsimp only at hSw); go_simp
    simp only [Act.put, List.getElem_toArray, List.getElem_cons_succ, List.getElem_cons_zero, List.setIfInBounds_toArray, List.set_cons_zero, List.set_cons_succ]
    refine wpAnyH_take (i := 3) (v := .int .i64 A) rfl (by kernel_rfl) (by kernel_rfl) (by kernel_rfl) (fun _ _ _ h => h) (Or.inl ⟨by kernel_rfl, ?_⟩) (by assumption) ?_
    · intro w9 hSw; (try dsimp only at hSw); go_simp
    simp only [Act.put, List.getElem_toArray, List.getElem_cons_succ, List.getElem_cons_zero, List.setIfInBounds_toArray, List.set_cons_zero, List.set_cons_succ]
    refine wpAnyH_take (i := 4) (v := .slice (some ⟨b, off + P, none⟩) 10 (c - P)) rfl (by kernel_rfl) (by kernel_rfl) (by kernel_rfl) (fun _ _ _ h => h) (Or.inl ⟨by kernel_rfl, ?_⟩) (by assumption) ?_
    · intro w9 hSw; (try dsimp only at hSw); go_simp
    simp only [Act.put, List.getElem_toArray, List.getElem_cons_succ, List.getElem_cons_zero, List.setIfInBounds_toArray, List.set_cons_zero, List.set_cons_succ]
    refine wpAnyH_take (i := 5) (v := .slice (some ⟨b, off, none⟩) n c) rfl (by kernel_rfl) (by kernel_rfl) (by kernel_rfl) (fun _ _ _ h => h) (Or.inl ⟨by kernel_rfl, ?_⟩) (by assumption) ?_
    · intro w9 hSw; (try dsimp only at hSw); go_simp
    simp only [Act.put, List.getElem_toArray, List.getElem_cons_succ, List.getElem_cons_zero, List.setIfInBounds_toArray, List.set_cons_zero, List.set_cons_succ]
    refine wpAnyH_take (i := 6) (v := .int .i64 P) rfl (by kernel_rfl) (by kernel_rfl) (by kernel_rfl) (fun _ _ _ h => h) (Or.inl ⟨by kernel_rfl, ?_⟩) (by assumption) ?_
    · intro w9 hSw; (try dsimp only at hSw); go_simp
    simp only [Act.put, List.getElem_toArray, List.getElem_cons_succ, List.getElem_cons_zero, List.setIfInBounds_toArray, List.set_cons_zero, List.set_cons_succ]
    refine wpAnyH_take (i := 7) (v := .int .i64 A) rfl (by kernel_rfl) (by kernel_rfl) (by kernel_rfl) (fun _ _ _ h => h) (Or.inl ⟨by kernel_rfl, ?_⟩) (by assumption) ?_
    · intro w9 hSw; (try dsimp only at hSw); go_simp
    simp only [Act.put, List.getElem_toArray, List.getElem_cons_succ, List.getElem_cons_zero, List.setIfInBounds_toArray, List.set_cons_zero, List.set_cons_succ]
    refine wpAnyH_take (i := 8) (v := .slice (some ⟨b, off + A, none⟩) (n - A) (c - A)) rfl (by kernel_rfl) (by kernel_rfl) (by kernel_rfl) (fun _ _ _ h => h) (Or.inl ⟨by kernel_rfl, ?_⟩) (by assumption) ?_
    · intro w9 hSw; (try dsimp only at hSw); go_simp
    simp only [Act.put, List.getElem_toArray, List.getElem_cons_succ, List.getElem_cons_zero, List.setIfInBounds_toArray, List.set_cons_zero, List.set_cons_succ]
    refine wpAnyH_take (i := 9) (v := .slice (some ⟨b, off + P, none⟩) 10 (c - P)) rfl (by kernel_rfl) (by kernel_rfl) (by kernel_rfl) (fun _ _ _ h => h) (Or.inl ⟨by kernel_rfl, ?_⟩) (by assumption) ?_
    · intro w9 hSw; (try dsimp only at hSw); go_simp
    simp only [Act.put, List.getElem_toArray, List.getElem_cons_succ, List.getElem_cons_zero, List.setIfInBounds_toArray, List.set_cons_zero, List.set_cons_succ]
    refine wpAnyH_take (i := 10) (v := .slice (some ⟨b, off + A, none⟩) (n - A) (c - A)) rfl (by kernel_rfl) (by kernel_rfl) (by kernel_rfl) (fun _ _ _ h => h) (Or.inl ⟨by kernel_rfl, ?_⟩) (by assumption) ?_
    · intro w9 hSw; (try dsimp only at hSw); go_simp
    simp only [Act.put, List.getElem_toArray, List.getElem_cons_succ, List.getElem_cons_zero, List.setIfInBounds_toArray, List.set_cons_zero, List.set_cons_succ]
    refine wpAnyH_done (by kernel_rfl) ?_ _
    go_wp2_with fail
    refine (g1.out _ _ bD).mono ?_
    rintro e w1 ⟨rfl, rfl⟩
    go_wp2_with fail
    refine (qT.out _).mono ?_
    rintro e w1 ⟨rfl, rfl⟩
    go_wp2_with fail
    refine (need_no 3 _).mono ?_
    rintro e w9 ⟨rfl, rfl⟩
    go_wp2_with fail
    exact ⟨rfl, rfl, bD⟩

end Go.Proofs.YtkfmpfbhhmmllaaGreat

/- RiF4: readFrame of the program: the code 4. By program (rigen.py). -/
namespace Go.Proofs.YtkfmpfbhhmmllaaGreat
open Go.RowKit
set_option linter.unusedVariables false
set_option maxRecDepth 100000
set_option linter.unusedSimpArgs false

set_option maxRecDepth 100000 in
set_option maxHeartbeats 1500000 in
theorem readRf_4 (b off n c : Nat) (zs : List Int) (P s : Nat) (num : Int) (w : World) (hl : zs.length = n) (hb : b < w.heap.size) (hc : ∀ i, i < n → w.cell? ⟨b, off + i, none⟩ = some (.int .u8 (zs[i]?.getD 0))) (hz : Byt zs)
    (hcn : n ≤ c) (hcm : c ≤ maxLen) (hn : n ≤ 1048576) (hP : P + 10 ≤ n) (hs : gnum zs P 2 = (s : Int)) (hnum : gnum zs (P + 2) 4 = num) (h3 : ¬ s = 0) (h3' : ¬ 1000 < s) (h4 : (n : Int) - (P : Int) - 10 < (s : Int)) :
    Calls Tryz.prog 117 #[.slice (some ⟨b, off, none⟩) n c, .int .i64 (P : Int)] w fun e w' => e = .panicked [{ v := .iface 146 (.int .i64 4), recovered := false }] ∧ Below w.heap.size w w' := by
  unfold maxLen at hcm
  have HC : Hid (∀ w', Below w.heap.size w w' → ∀ i, i < n → w'.cell? ⟨b, off + i, none⟩ = some (.int .u8 (zs[i]?.getD 0))) := fun w' hb' i hi => (hb'.cell (p := ⟨b, off + i, none⟩) hb).trans (hc i hi)
  have HH : Hid (∀ w', Below w.heap.size w w' → Rd w' (some ⟨b, off + P, none⟩) (cutL zs P 10)) := fun w' hb' => rd_cut (Nat.lt_of_lt_of_le hb hb'.size) hz hl (HC.out w' hb') P 10 (by omega)
  have hl10 : (cutL zs P 10).length = 10 := cutL_len _ _ _ (by omega)
  have g1 : Hid (∀ w' cp, Below w.heap.size w w' → Calls Tryz.prog 132 #[.slice (some ⟨b, off + P, none⟩) 10 cp, .int .i64 0, .int .i64 2] w' fun e w'' => e = .returned (.tuple #[.int .i64 (s : Int), .bool true]) ∧ w'' = w') := fun w' cp hb' => by
    rw [← hs, show gnum zs P 2 = gnum (cutL zs P 10) 0 2 from (gnum_cut zs P 10 0 2 (by omega)).symm]; exact implGet_yes _ 10 cp _ 0 2 w' hl10 (HH.out w' hb') (by omega) (by omega) (by omega) (by omega)
  have g2 : Hid (∀ w' cp, Below w.heap.size w w' → Calls Tryz.prog 132 #[.slice (some ⟨b, off + P, none⟩) 10 cp, .int .i64 2, .int .i64 4] w' fun e w'' => e = .returned (.tuple #[.int .i64 num, .bool true]) ∧ w'' = w') := fun w' cp hb' => by
    rw [← hnum, show gnum zs (P + 2) 4 = gnum (cutL zs P 10) 2 4 from (gnum_cut zs P 10 2 4 (by omega)).symm]; exact implGet_yes _ 10 cp _ 2 4 w' hl10 (HH.out w' hb') (by omega) (by omega) (by omega) (by omega)
  have hnb := gnum4_bd zs hz (P + 2)
  rw [hnum] at hnb
  obtain ⟨A, hA⟩ : ∃ A : Nat, A = P + 10 := ⟨_, rfl⟩
  have a1 : (P : Int) + 10 = (A : Int) := by omega
  have aw1 : IntKind.i64.wrap (A : Int) = (A : Int) := wrap_i64_in _ (by omega) (by omega)
  have a2 : A - P = 10 := by omega
  have a3 : A ≤ n := by omega
  have a4 : A ≤ c := by omega
  have a5 : ¬ c < A := by omega
  have a6 : P ≤ A := by omega
  have a7 : ¬ c = P := by omega
  have a8 : ¬ A = P := by omega
  have t1 : (0 : Int) ≤ (P : Int) := by omega
  have t2 : (P : Int) ≤ (n : Int) := by omega
  have t3 : (10 : Int) ≤ (n : Int) - (P : Int) := by omega
  have bW0 : Below w.heap.size w (w.alloc (.cells #[.int .i64 0, .string ⟨#[]⟩] 71)) := (Below.refl _ _).alloc (Nat.le_refl _) _
  have bD : Below w.heap.size w (w.alloc (.cells #[.int .i64 0, .string ⟨#[]⟩] 71)).drew := bW0.drew
  have qT : Hid (∀ w', Calls Tryz.prog 100 #[.int .i64 (s : Int)] w' fun e w'' => e = .returned (.bool true) ∧ w'' = w') := fun w' => by
    have := textSizeOk_any (s : Int) w'
    rwa [show (decide ((1 : Int) ≤ (s : Int)) && decide ((s : Int) ≤ 1000)) = true by simp; omega] at this
  have z1 : ¬ s ≤ n - A := by omega
  have z2 : decide (s ≤ n - A) = false := by simp; omega
  have z3 : ¬ (s : Int) ≤ ((n - A : Nat) : Int) := by omega
  have z4 : decide ((s : Int) ≤ ((n - A : Nat) : Int)) = false := by simp; omega
  clear HC HH hl10 hc hl hz hs hnum hA g2
  by_cases hcA : c = A
  · have hcA' : c - A = 0 := by omega
    go_enter Tryz.func117, Tryz.ntmps117
    go_wp2_with fail
    refine (need_yes 1 _).mono ?_
    rintro e w9 ⟨rfl, rfl⟩
    go_wp2_with fail
    refine (need_yes 2 _).mono ?_
    rintro e w9 ⟨rfl, rfl⟩
    go_wp2_with fail
    refine wp_region_held_drew (S := fun w' => True) (by kernel_rfl) trivial (fun hHeld => ?_)
    refine wpAnyH_take (i := 0) (v := .slice (some ⟨b, off, none⟩) n c) rfl (by kernel_rfl) (by kernel_rfl) (by kernel_rfl) (fun _ _ _ h => h) (Or.inl ⟨by kernel_rfl, ?_⟩) (by assumption) ?_
    · intro w9 hSw; (try dsimp only at hSw); go_simp
    simp only [Act.put, List.getElem_toArray, List.getElem_cons_succ, List.getElem_cons_zero, List.setIfInBounds_toArray, List.set_cons_zero, List.set_cons_succ]
    refine wpAnyH_take (i := 1) (v := .int .i64 P) rfl (by kernel_rfl) (by kernel_rfl) (by kernel_rfl) (fun _ _ _ h => h) (Or.inl ⟨by kernel_rfl, ?_⟩) (by assumption) ?_
    · intro w9 hSw; (try dsimp only at hSw); go_simp
    simp only [Act.put, List.getElem_toArray, List.getElem_cons_succ, List.getElem_cons_zero, List.setIfInBounds_toArray, List.set_cons_zero, List.set_cons_succ]
    refine wpAnyH_take (i := 2) (v := .int .i64 P) rfl (by kernel_rfl) (by kernel_rfl) (by kernel_rfl) (fun _ _ _ h => h) (Or.inl ⟨by kernel_rfl, ?_⟩) (by assumption) ?_
    · intro w9 hSw; (try dsimp only at hSw); go_simp
    simp only [Act.put, List.getElem_toArray, List.getElem_cons_succ, List.getElem_cons_zero, List.setIfInBounds_toArray, List.set_cons_zero, List.set_cons_succ]
    refine wpAnyH_take (i := 3) (v := .int .i64 A) rfl (by kernel_rfl) (by kernel_rfl) (by kernel_rfl) (fun _ _ _ h => h) (Or.inl ⟨by kernel_rfl, ?_⟩) (by assumption) ?_
    · intro w9 hSw; (try dsimp only at hSw); go_simp
    simp only [Act.put, List.getElem_toArray, List.getElem_cons_succ, List.getElem_cons_zero, List.setIfInBounds_toArray, List.set_cons_zero, List.set_cons_succ]
    refine wpAnyH_take (i := 4) (v := .slice (some ⟨b, off + P, none⟩) 10 (c - P)) rfl (by kernel_rfl) (by kernel_rfl) (by kernel_rfl) (fun _ _ _ h => h) (Or.inl ⟨by kernel_rfl, ?_⟩) (by assumption) ?_
    · intro w9 hSw; (try dsimp only at hSw); go_simp
    simp only [Act.put, List.getElem_toArray, List.getElem_cons_succ, List.getElem_cons_zero, List.setIfInBounds_toArray, List.set_cons_zero, List.set_cons_succ]
    refine wpAnyH_take (i := 5) (v := .slice (some ⟨b, off, none⟩) n c) rfl (by kernel_rfl) (by kernel_rfl) (by kernel_rfl) (fun _ _ _ h => h) (Or.inl ⟨by kernel_rfl, ?_⟩) (by assumption) ?_
    · intro w9 hSw; (try dsimp only at hSw); go_simp
    simp only [Act.put, List.getElem_toArray, List.getElem_cons_succ, List.getElem_cons_zero, List.setIfInBounds_toArray, List.set_cons_zero, List.set_cons_succ]
    refine wpAnyH_take (i := 6) (v := .int .i64 P) rfl (by kernel_rfl) (by kernel_rfl) (by kernel_rfl) (fun _ _ _ h => h) (Or.inl ⟨by kernel_rfl, ?_⟩) (by assumption) ?_
    · intro w9 hSw; (try dsimp only at hSw); go_simp
    simp only [Act.put, List.getElem_toArray, List.getElem_cons_succ, List.getElem_cons_zero, List.setIfInBounds_toArray, List.set_cons_zero, List.set_cons_succ]
    refine wpAnyH_take (i := 7) (v := .int .i64 A) rfl (by kernel_rfl) (by kernel_rfl) (by kernel_rfl) (fun _ _ _ h => h) (Or.inl ⟨by kernel_rfl, ?_⟩) (by assumption) ?_
    · intro w9 hSw; (try dsimp only at hSw); go_simp
    simp only [Act.put, List.getElem_toArray, List.getElem_cons_succ, List.getElem_cons_zero, List.setIfInBounds_toArray, List.set_cons_zero, List.set_cons_succ]
    refine wpAnyH_take (i := 8) (v := .slice (some ⟨b, off, none⟩) (n - A) 0) rfl (by kernel_rfl) (by kernel_rfl) (by kernel_rfl) (fun _ _ _ h => h) (Or.inl ⟨by kernel_rfl, ?_⟩) (by assumption) ?_
    · intro w9 hSw; (try dsimp only at hSw); go_simp
    simp only [Act.put, List.getElem_toArray, List.getElem_cons_succ, List.getElem_cons_zero, List.setIfInBounds_toArray, List.set_cons_zero, List.set_cons_succ]
    refine wpAnyH_take (i := 9) (v := .slice (some ⟨b, off + P, none⟩) 10 (c - P)) rfl (by kernel_rfl) (by kernel_rfl) (by kernel_rfl) (fun _ _ _ h => h) (Or.inl ⟨by kernel_rfl, ?_⟩) (by assumption) ?_
    · intro w9 hSw; (try dsimp only at hSw); go_simp
    simp only [Act.put, List.getElem_toArray, List.getElem_cons_succ, List.getElem_cons_zero, List.setIfInBounds_toArray, List.set_cons_zero, List.set_cons_succ]
    refine wpAnyH_take (i := 10) (v := .slice (some ⟨b, off, none⟩) (n - A) 0) rfl (by kernel_rfl) (by kernel_rfl) (by kernel_rfl) (fun _ _ _ h => h) (Or.inl ⟨by kernel_rfl, ?_⟩) (by assumption) ?_
    · intro w9 hSw; (try dsimp only at hSw); go_simp
    simp only [Act.put, List.getElem_toArray, List.getElem_cons_succ, List.getElem_cons_zero, List.setIfInBounds_toArray, List.set_cons_zero, List.set_cons_succ]
    refine wpAnyH_done (by kernel_rfl) ?_ _
    go_wp2_with fail
    refine (g1.out _ _ bD).mono ?_
    rintro e w1 ⟨rfl, rfl⟩
    go_wp2_with fail
    refine (qT.out _).mono ?_
    rintro e w1 ⟨rfl, rfl⟩
    go_wp2_with fail
    refine (need_yes 3 _).mono ?_
    rintro e w9 ⟨rfl, rfl⟩
    go_wp2_with fail
    refine (need_no 4 _).mono ?_
    rintro e w9 ⟨rfl, rfl⟩
    go_wp2_with fail
    exact ⟨rfl, rfl, bD⟩
  · go_enter Tryz.func117, Tryz.ntmps117
    go_wp2_with fail
    refine (need_yes 1 _).mono ?_
    rintro e w9 ⟨rfl, rfl⟩
    go_wp2_with fail
    refine (need_yes 2 _).mono ?_
    rintro e w9 ⟨rfl, rfl⟩
    go_wp2_with fail
    refine wp_region_held_drew (S := fun w' => True) (by kernel_rfl) trivial (fun hHeld => ?_)
    refine wpAnyH_take (i := 0) (v := .slice (some ⟨b, off, none⟩) n c) rfl (by kernel_rfl) (by kernel_rfl) (by kernel_rfl) (fun _ _ _ h => h) (Or.inl ⟨by kernel_rfl, ?_⟩) (by assumption) ?_
    · intro w9 hSw; (try dsimp only at hSw); go_simp
    simp only [Act.put, List.getElem_toArray, List.getElem_cons_succ, List.getElem_cons_zero, List.setIfInBounds_toArray, List.set_cons_zero, List.set_cons_succ]
    refine wpAnyH_take (i := 1) (v := .int .i64 P) rfl (by kernel_rfl) (by kernel_rfl) (by kernel_rfl) (fun _ _ _ h => h) (Or.inl ⟨by kernel_rfl, ?_⟩) (by assumption) ?_
    · intro w9 hSw; (try dsimp only at hSw); go_simp
    simp only [Act.put, List.getElem_toArray, List.getElem_cons_succ, List.getElem_cons_zero, List.setIfInBounds_toArray, List.set_cons_zero, List.set_cons_succ]
    refine wpAnyH_take (i := 2) (v := .int .i64 P) rfl (by kernel_rfl) (by kernel_rfl) (by kernel_rfl) (fun _ _ _ h => h) (Or.inl ⟨by kernel_rfl, ?_⟩) (by assumption) ?_
    · intro w9 hSw; (try dsimp only at hSw); go_simp
    simp only [Act.put, List.getElem_toArray, List.getElem_cons_succ, List.getElem_cons_zero, List.setIfInBounds_toArray, List.set_cons_zero, List.set_cons_succ]
    refine wpAnyH_take (i := 3) (v := .int .i64 A) rfl (by kernel_rfl) (by kernel_rfl) (by kernel_rfl) (fun _ _ _ h => h) (Or.inl ⟨by kernel_rfl, ?_⟩) (by assumption) ?_
    · intro w9 hSw; (try dsimp only at hSw); go_simp
    simp only [Act.put, List.getElem_toArray, List.getElem_cons_succ, List.getElem_cons_zero, List.setIfInBounds_toArray, List.set_cons_zero, List.set_cons_succ]
    refine wpAnyH_take (i := 4) (v := .slice (some ⟨b, off + P, none⟩) 10 (c - P)) rfl (by kernel_rfl) (by kernel_rfl) (by kernel_rfl) (fun _ _ _ h => h) (Or.inl ⟨by kernel_rfl, ?_⟩) (by assumption) ?_
    · intro w9 hSw; (try dsimp only at hSw); go_simp
    simp only [Act.put, List.getElem_toArray, List.getElem_cons_succ, List.getElem_cons_zero, List.setIfInBounds_toArray, List.set_cons_zero, List.set_cons_succ]
    refine wpAnyH_take (i := 5) (v := .slice (some ⟨b, off, none⟩) n c) rfl (by kernel_rfl) (by kernel_rfl) (by kernel_rfl) (fun _ _ _ h => h) (Or.inl ⟨by kernel_rfl, ?_⟩) (by assumption) ?_
    · intro w9 hSw; (try dsimp only at hSw); go_simp
    simp only [Act.put, List.getElem_toArray, List.getElem_cons_succ, List.getElem_cons_zero, List.setIfInBounds_toArray, List.set_cons_zero, List.set_cons_succ]
    refine wpAnyH_take (i := 6) (v := .int .i64 P) rfl (by kernel_rfl) (by kernel_rfl) (by kernel_rfl) (fun _ _ _ h => h) (Or.inl ⟨by kernel_rfl, ?_⟩) (by assumption) ?_
    · intro w9 hSw; (try dsimp only at hSw); go_simp
    simp only [Act.put, List.getElem_toArray, List.getElem_cons_succ, List.getElem_cons_zero, List.setIfInBounds_toArray, List.set_cons_zero, List.set_cons_succ]
    refine wpAnyH_take (i := 7) (v := .int .i64 A) rfl (by kernel_rfl) (by kernel_rfl) (by kernel_rfl) (fun _ _ _ h => h) (Or.inl ⟨by kernel_rfl, ?_⟩) (by assumption) ?_
    · intro w9 hSw; (try dsimp only at hSw); go_simp
    simp only [Act.put, List.getElem_toArray, List.getElem_cons_succ, List.getElem_cons_zero, List.setIfInBounds_toArray, List.set_cons_zero, List.set_cons_succ]
    refine wpAnyH_take (i := 8) (v := .slice (some ⟨b, off + A, none⟩) (n - A) (c - A)) rfl (by kernel_rfl) (by kernel_rfl) (by kernel_rfl) (fun _ _ _ h => h) (Or.inl ⟨by kernel_rfl, ?_⟩) (by assumption) ?_
    · intro w9 hSw; (try dsimp only at hSw); go_simp
    simp only [Act.put, List.getElem_toArray, List.getElem_cons_succ, List.getElem_cons_zero, List.setIfInBounds_toArray, List.set_cons_zero, List.set_cons_succ]
    refine wpAnyH_take (i := 9) (v := .slice (some ⟨b, off + P, none⟩) 10 (c - P)) rfl (by kernel_rfl) (by kernel_rfl) (by kernel_rfl) (fun _ _ _ h => h) (Or.inl ⟨by kernel_rfl, ?_⟩) (by assumption) ?_
    · intro w9 hSw; (try dsimp only at hSw); go_simp
    simp only [Act.put, List.getElem_toArray, List.getElem_cons_succ, List.getElem_cons_zero, List.setIfInBounds_toArray, List.set_cons_zero, List.set_cons_succ]
    refine wpAnyH_take (i := 10) (v := .slice (some ⟨b, off + A, none⟩) (n - A) (c - A)) rfl (by kernel_rfl) (by kernel_rfl) (by kernel_rfl) (fun _ _ _ h => h) (Or.inl ⟨by kernel_rfl, ?_⟩) (by assumption) ?_
    · intro w9 hSw; (try dsimp only at hSw); go_simp
    simp only [Act.put, List.getElem_toArray, List.getElem_cons_succ, List.getElem_cons_zero, List.setIfInBounds_toArray, List.set_cons_zero, List.set_cons_succ]
    refine wpAnyH_done (by kernel_rfl) ?_ _
    go_wp2_with fail
    refine (g1.out _ _ bD).mono ?_
    rintro e w1 ⟨rfl, rfl⟩
    go_wp2_with fail
    refine (qT.out _).mono ?_
    rintro e w1 ⟨rfl, rfl⟩
    go_wp2_with fail
    refine (need_yes 3 _).mono ?_
    rintro e w9 ⟨rfl, rfl⟩
    go_wp2_with fail
    refine (need_no 4 _).mono ?_
    rintro e w9 ⟨rfl, rfl⟩
    go_wp2_with fail
    exact ⟨rfl, rfl, bD⟩

end Go.Proofs.YtkfmpfbhhmmllaaGreat
