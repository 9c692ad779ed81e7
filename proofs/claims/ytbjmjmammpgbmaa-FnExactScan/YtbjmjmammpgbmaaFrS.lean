/-
  FrameBytes of the model. By program (frgen.py).
-/
import Derived.Test.YtbjmjmammpgbmaaEnt
import Derived.Test.YtbjmjmammpgbmaaFrP
import Derived.Test.YtbjmjmammpgbmaaPutV
import Derived.Test.YtbjmjmammpgbmaaCrc
import Derived.Deep.RegionHeld3
namespace Go.Proofs.Ytbjmjmammpgbmaa
open Go.RowKit
set_option linter.unusedVariables false
set_option linter.unusedSimpArgs false

set_option maxRecDepth 100000 in
set_option maxHeartbeats 2000000 in
theorem specFrame_no (x0 : Int) (x1 : ByteArray) (w : World) (h1 : x1.size ≤ maxLen) (hB : entB x0 x1.size = false) :
    Calls Try.prog 36 #[.agg #[.int .i64 x0, .string x1]] w fun e w' => e = .returned (.tuple #[.slice none 0 0, .bool false]) ∧ Below w.heap.size w w' := by
  have qE : Hid (∀ w', Calls Try.prog 48 #[.agg #[.int .i64 x0, .string x1]] w' fun e w'' => e = .returned (.bool false) ∧ Below w'.heap.size w' w'') := fun w' => by rw [← hB]; exact specEnt_any _ _ w' h1
  clear hB
  obtain ⟨W0, hW0⟩ : ∃ W0, W0 = w.alloc (.cells #[.int .i64 x0, .string x1] 33) := ⟨_, rfl⟩
  have bW0 : Below w.heap.size w W0 := by rw [hW0]; exact (Below.refl _ _).alloc (Nat.le_refl _) _
  have hbox : W0.heap[w.heap.size]? = some (.cells #[.int .i64 x0, .string x1] 33 (0, 0)) := by rw [hW0]; exact heap_alloc_new w _
  have zlt0 : w.heap.size < W0.heap.size := by rw [hW0]; simp
  have HW0 : Hid (W0 = w.alloc (.cells #[.int .i64 x0, .string x1] 33)) := hW0
  have BX : Hid (∀ w', Below W0.heap.size W0 w' → w'.cell? ⟨w.heap.size, 0, none⟩ = some (.int .i64 x0) ∧ w'.cell? ⟨w.heap.size, 1, none⟩ = some (.string x1)) := fun w' h' => by
    have i := (h'.block _ zlt0).trans hbox
    exact ⟨box_cell i rfl, box_cell i rfl⟩
  obtain ⟨v0, v1⟩ := BX.out W0 (Below.refl _ _)
  clear hW0 hbox
  go_enter Try.func36, Try.ntmps36
  go_wp2_with fail
  rw [← HW0.out]
  refine (qE.out _).mono ?_
  rintro e w1 ⟨rfl, hb1⟩
  have b1 := bW0.trans (hb1.mono bW0.size)
  clear v0 v1
  go_wp2
  go_ret2
  exact ⟨rfl, b1⟩

set_option maxRecDepth 100000 in
set_option maxHeartbeats 4000000 in
theorem specFrame_yes (x0 : Int) (x1 : ByteArray) (w : World) (hB : entB x0 x1.size = true) :
    Calls Try.prog 36 #[.agg #[.int .i64 x0, .string x1]] w fun e w' => ∃ v, e = .returned (.tuple #[v, .bool true]) ∧
      w'.ownsRow w.heap.size 5 1 v (10 + x1.size) ((frameL x0 (sB x1)).map (Value.int .u8)) ∧ Below w.heap.size w w' := by
  obtain ⟨i0, hi, hz0, hz1, hz2⟩ := info_parts Try.infoB
  have hb := (entB_iff _ _).1 hB
  have hlen : x1.size ≤ 1000 := hb.2.2.2
  have qE : Hid (∀ w', Calls Try.prog 48 #[.agg #[.int .i64 x0, .string x1]] w' fun e w'' => e = .returned (.bool true) ∧ Below w'.heap.size w' w'') := fun w' => by rw [← hB]; exact specEnt_any _ _ w' (by unfold maxLen; omega)
  have q2 : Hid (∀ w', Calls Try.prog 49 #[.slice none 0 0, .int .i64 (x1.size : Int), .int .i64 2] w' fun e w'' => ∃ v, e = .returned (.tuple #[v, .bool true]) ∧ w''.ownsRow w'.heap.size 5 1 v 2 ((pdig x1.size 2 2).map (Value.int .u8)) ∧ Below w'.heap.size w' w'') := fun w' =>
    specPut_src none 0 0 [] (x1.size : Int) 2 w' rfl (src_nil _) (by omega) (by omega) (by omega) (by simp [pw]; omega) (by omega)
  have q3 : Hid (∀ w' g c, w'.ownsRow 0 5 1 (.slice (some ⟨g, 0, none⟩) 2 c) 2 ((pdig x1.size 2 2).map (Value.int .u8)) → Calls Try.prog 49 #[.slice (some ⟨g, 0, none⟩) 2 c, .int .i64 x0, .int .i64 4] w' fun e w'' => ∃ v, e = .returned (.tuple #[v, .bool true]) ∧ w''.ownsRow w'.heap.size 5 1 v 6 ((headL x0 x1.size).map (Value.int .u8)) ∧ Below w'.heap.size w' w'') := fun w' g c ho =>
    specPut_src (some ⟨g, 0, none⟩) 2 c (pdig x1.size 2 2) x0 4 w' (pdig_len _ _ _) (src_own ho) (by omega) (by omega) (by omega) (by simp [pw]; omega) (by omega)
  obtain ⟨C, hC⟩ : ∃ C, C = crcI (headL x0 x1.size ++ sB x1) := ⟨_, rfl⟩
  have hCb := crcI_bd (headL x0 x1.size ++ sB x1) (byt_append (byt_headL _ _) (byt_sB _))
  rw [← hC] at hCb
  have hcl : (headL x0 x1.size ++ sB x1).length = 6 + x1.size := by rw [List.length_append, headL_len, sB_len]
  have qC : Hid (∀ w' v, w'.ownsRow 0 5 1 v (6 + x1.size) ((headL x0 x1.size ++ sB x1).map (Value.int .u8)) → Calls Try.prog 50 #[v] w' fun e w'' => e = .returned (.int .i64 C) ∧ w'' = w') := fun w' v ho => by
    obtain ⟨g, cap, rfl, _⟩ := own_form ho (by omega)
    refine (specCrc_any _ _ cap _ w' hcl (rd_own hcl (byt_append (byt_headL _ _) (byt_sB _)) ho) (by omega)).mono ?_
    rintro e w'' ⟨rfl, rfl⟩
    exact ⟨by rw [hC, crcI, hcl], rfl⟩
  have q5 : Hid (∀ w' g c, w'.ownsRow 0 5 1 (.slice (some ⟨g, 0, none⟩) 6 c) 6 ((headL x0 x1.size).map (Value.int .u8)) → Calls Try.prog 49 #[.slice (some ⟨g, 0, none⟩) 6 c, .int .i64 C, .int .i64 4] w' fun e w'' => ∃ v, e = .returned (.tuple #[v, .bool true]) ∧ w''.ownsRow w'.heap.size 5 1 v 10 ((headL x0 x1.size ++ pdig C 4 4).map (Value.int .u8)) ∧ Below w'.heap.size w' w'') := fun w' g c ho =>
    specPut_src (some ⟨g, 0, none⟩) 6 c (headL x0 x1.size) C 4 w' (headL_len _ _) (src_own ho) (by omega) (by omega) (by omega) (by simp [pw]; omega) (by omega)
  have hF : Hid ((frameL x0 (sB x1)).map (Value.int .u8) = (headL x0 x1.size ++ pdig C 4 4).map (Value.int .u8) ++ Lib.strCells x1) := by
    show _ = _
    rw [hC, sB_cells, ← List.map_append]
    unfold frameL
    rw [sB_len]
  obtain ⟨H6, hH6⟩ : ∃ H, H = (headL x0 x1.size).map (Value.int .u8) := ⟨_, rfl⟩
  have hH6l : H6.length = 6 := by rw [hH6, List.length_map, headL_len]
  have hH61 : ∀ u ∈ H6, u.oneCell' = true := by rw [hH6]; exact ints_oneCell _ _
  have hHc : Hid ((headL x0 x1.size ++ sB x1).map (Value.int .u8) = H6 ++ Lib.strCells x1) := by show _ = _; rw [hH6, sB_cells, ← List.map_append]
  rw [hHc.out] at qC
  rw [← hH6] at q3 q5
  have HF := hF
  clear hB hb hC hcl hHc hF hH6
  obtain ⟨W0, hW0⟩ : ∃ W0, W0 = w.alloc (.cells #[.int .i64 x0, .string x1] 33) := ⟨_, rfl⟩
  have bW0 : Below w.heap.size w W0 := by rw [hW0]; exact (Below.refl _ _).alloc (Nat.le_refl _) _
  have hbox : W0.heap[w.heap.size]? = some (.cells #[.int .i64 x0, .string x1] 33 (0, 0)) := by rw [hW0]; exact heap_alloc_new w _
  have zlt0 : w.heap.size < W0.heap.size := by rw [hW0]; simp
  have HW0 : Hid (W0 = w.alloc (.cells #[.int .i64 x0, .string x1] 33)) := hW0
  have BX : Hid (∀ w', Below W0.heap.size W0 w' → w'.cell? ⟨w.heap.size, 0, none⟩ = some (.int .i64 x0) ∧ w'.cell? ⟨w.heap.size, 1, none⟩ = some (.string x1)) := fun w' h' => by
    have i := (h'.block _ zlt0).trans hbox
    exact ⟨box_cell i rfl, box_cell i rfl⟩
  obtain ⟨v0, v1⟩ := BX.out W0 (Below.refl _ _)
  clear hW0 hbox
  go_enter Try.func36, Try.ntmps36
  go_wp2_with fail
  rw [← HW0.out]
  refine (qE.out _).mono ?_
  rintro e w1 ⟨rfl, d1⟩
  obtain ⟨y0, y1⟩ := BX.out w1 d1
  clear v0 v1
  go_wp2_with fail
  refine (q2.out _).mono ?_
  rintro e w2 ⟨v2, rfl, o2, hb2⟩
  have d2 := d1.trans (hb2.mono d1.size)
  obtain ⟨g2, c2, rfl, hg2, hl2⟩ := own_form o2 (by omega)
  have o2' := own_base o2 (Nat.zero_le _)
  clear y0 y1 hb2 o2 hg2 hl2
  obtain ⟨y0, y1⟩ := BX.out w2 d2
  go_wp2_with fail
  refine (q3.out _ _ _ o2').mono ?_
  rintro e w3 ⟨v3, rfl, o3, hb3⟩
  have d3 := d2.trans (hb3.mono d2.size)
  obtain ⟨g3, c3, rfl, hg3, hl3⟩ := own_form o3 (by omega)
  have o3' := own_base o3 (Nat.zero_le _)
  clear y0 y1 hb3 o2' o3 hg3
  obtain ⟨y0, y1⟩ := BX.out w3 d3
  have hm0 : (0 : Nat) ≤ maxLen := Nat.zero_le _
  have hown00 := World.ownsRow_lit (base := w3.drew.heap.size) (e := 5) (size := 1) w3.drew #[] 0 (Nat.le_refl _) hm0 rfl
  have bd3 : Below w3.heap.size w3 w3.drew := (Below.refl _ _).drew
  have bA3 : Below w3.heap.size w3 (w3.drew.alloc (.cells #[] 5)) := bd3.alloc (by simp) _
  have O3 : Hid (w3.ownsRow 0 5 1 (.slice (some ⟨g3, 0, none⟩) 6 c3) 6 H6) := o3'
  clear o3'
  go_wp2_with fail
  refine wp_region_held_drew (S := fun w' => w'.cell? ⟨w.heap.size, 1, none⟩ = some (.string x1)) (by kernel_rfl) y1 (fun hHeld => ?_)
  refine wpAnyH_take (i := 1) (v := .slice (some ⟨g3, 0, none⟩) 6 c3) rfl (by kernel_rfl) (by kernel_rfl) (by kernel_rfl) (fun _ _ _ h => h) (Or.inl ⟨by kernel_rfl, ?_⟩) (by assumption) ?_
  · intro w9 hSw; (try dsimp only at hSw); go_simp
  simp only [Act.put, List.getElem_toArray, List.getElem_cons_succ, List.getElem_cons_zero, List.setIfInBounds_toArray, List.set_cons_zero, List.set_cons_succ]
  refine wpAnyH_take (i := 3) (v := .pointer (some ⟨w.heap.size, 1, none⟩)) rfl (by kernel_rfl) (by kernel_rfl) (by kernel_rfl) (fun _ _ _ h => h) (Or.inl ⟨by kernel_rfl, ?_⟩) (by assumption) ?_
  · intro w9 hSw; (try dsimp only at hSw); go_simp
  simp only [Act.put, List.getElem_toArray, List.getElem_cons_succ, List.getElem_cons_zero, List.setIfInBounds_toArray, List.set_cons_zero, List.set_cons_succ]
  refine wpAnyH_take (i := 4) (v := .string x1) rfl (by kernel_rfl) (by kernel_rfl) (by kernel_rfl) (fun _ _ _ h => h) (Or.inl ⟨by kernel_rfl, ?_⟩) (by assumption) ?_
  · intro w9 hSw; (try dsimp only at hSw); go_simp
  simp only [Act.put, List.getElem_toArray, List.getElem_cons_succ, List.getElem_cons_zero, List.setIfInBounds_toArray, List.set_cons_zero, List.set_cons_succ]
  refine wpAnyH_ready (rs := [0]) (by kernel_rfl) (by simp) ?_
  refine AllReadyH.cons rfl (fun K hK => ?_) AllReadyH.nil
  go_simp
  have dA := d3.trans (bA3.mono d3.size)
  refine hK.out _ _ (BX.out _ dA).2 (fun hHeld0 => ?_)
  clear hK
  refine wpAnyH_ready (rs := [2]) (by kernel_rfl) (by simp) ?_
  refine AllReadyH.cons rfl (fun K hK => ?_) AllReadyH.nil
  refine step_append_src (by rfl) _ _ 22 (by rfl) w3.heap.size 5 i0 (.int .u8 0) 1 1 Try.underlying22 hi hz0 hz1 hz2 rfl (by decide) (.slice (some ⟨w3.heap.size, 0, none⟩) 0 0) 0 [] (by rfl) hown00 (.slice (some ⟨g3, 0, none⟩) 6 c3) 6 H6 (by rfl) (by omega) (src_later (src_own O3.out) bA3) hH61 (by unfold maxLen; omega) (by omega) (by simp) ?_
  intro v4 w4 o4 gr4
  have b4 : Below w3.heap.size w3 w4 := bA3.grown gr4 (by simp) (fun k h => by simp [Value.ownBlock] at h; omega)
  simp only [Act.put, List.setIfInBounds_toArray, List.set_cons_zero, List.set_cons_succ]
  have d4 := d3.trans (b4.mono d3.size)
  clear gr4
  refine hK.out _ _ (BX.out _ d4).2 (fun hHeld2 => ?_)
  clear hK
  refine wpAnyH_ready (rs := [5]) (by kernel_rfl) (by simp) ?_
  refine AllReadyH.cons rfl (fun K hK => ?_) AllReadyH.nil
  refine step_append_str (by rfl) _ _ 22 9 (by rfl) w3.heap.size 5 i0 Try.underlying22 Try.underlying9 hi hz0 hz1 hz2 v4 6 H6 (by rfl) (by simpa using o4) x1 (by rfl) (by unfold maxLen; omega) (by omega) b4.size ?_
  intro v5 w5 o5 gr5
  have b5 : Below w3.heap.size w3 w5 := b4.grown gr5 b4.size (fun k h => (o4.lt k h).1)
  simp only [Act.put, List.setIfInBounds_toArray, List.set_cons_zero, List.set_cons_succ]
  have d5 := d3.trans (b5.mono d3.size)
  clear gr5
  refine hK.out _ _ (BX.out _ d5).2 (fun hHeld5 => ?_)
  clear hK
  refine wpAnyH_ready (rs := [6]) (by kernel_rfl) (by simp) ?_
  refine AllReadyH.cons rfl (fun K hK => ?_) AllReadyH.nil
  go_simp
  refine (qC.out w5 v5 (own_base0 o5)).mono ?_
  rintro e w6 ⟨rfl, rfl⟩
  go_wp2_with fail
  refine hK.out _ _ (BX.out _ d5).2 (fun hHeld6 => ?_)
  clear hK
  refine wpAnyH_take (i := 7) (v := .int .i64 C) rfl (by kernel_rfl) (by kernel_rfl) (by kernel_rfl) (fun _ _ _ h => h) (Or.inl ⟨by kernel_rfl, ?_⟩) (by assumption) ?_
  · intro w9 hSw; (try dsimp only at hSw); go_simp
  simp only [Act.put, List.getElem_toArray, List.getElem_cons_succ, List.getElem_cons_zero, List.setIfInBounds_toArray, List.set_cons_zero, List.set_cons_succ]
  refine wpAnyH_done (by kernel_rfl) ?_ _
  have o6 := own_later O3.out b5
  clear y0 y1 o4 o5 hown00 bd3 bA3 b4
  go_wp2_with fail
  refine (q5.out _ _ _ o6).mono ?_
  rintro e w7 ⟨v7, rfl, o7, hb7⟩
  have d7 := d5.trans (hb7.mono d5.size)
  obtain ⟨y0, y1⟩ := BX.out w7 d7
  have hsz := (bW0.trans (d5.mono bW0.size)).size
  go_wp2_with (at_builtin; refine Lib.wpList_append_own_string _ rfl _ _ 22 9 rfl w6.heap.size 5 i0 Try.underlying22 Try.underlying9 hi hz0 hz1 hz2 _ _ _ rfl o7 x1 rfl ?c1 ?c2 hb7.size ?_)
  case c1 => unfold maxLen; omega
  case c2 => omega
  intro v8 w8 o8 gr8 _
  have b7 : Below w.heap.size w w7 := bW0.trans (d7.mono bW0.size)
  have b8 : Below w.heap.size w w8 := b7.grown gr8 b7.size (fun k h => by have := (o7.lt k h).1; omega)
  have o8' : w8.ownsRow w6.heap.size 5 1 v8 (10 + x1.size) ((frameL x0 (sB x1)).map (Value.int .u8)) := by rw [HF.out]; simpa [List.append_assoc] using o8
  have o9 := own_lower o8' hsz
  clear gr8 o7 o8 o8'
  go_wp2
  go_ret2
  exact ⟨_, rfl, o9, b8⟩

end Go.Proofs.Ytbjmjmammpgbmaa
