/-
  copyEntries of the program: all of it in memory of its own. By program (lastgen.py).
-/
import Derived.Test.YtcmipfpblnbccaaEntC
import Derived.Test.YtcmipfpblnbccaaShelf
import Derived.Deep.RegionHeld3
namespace Go.Proofs.Ytcmipfpblnbccaa
open Go.RowKit
set_option linter.unusedVariables false
set_option linter.unusedSimpArgs false

set_option maxHeartbeats 400000 in
theorem cloneT_any (s : ByteArray) (w : World) (h : s.size ≤ 1048576) :
    Calls Try.prog 42 #[.string s] w fun e w' => e = .returned (.string s) ∧ Below w.heap.size w w' := by
  go_enter Try.func42, Try.ntmps42
  go_wp2_with fail
  refine (Try.stringslite_Clone s _ (by omega)).mono ?_
  rintro e w' ⟨rfl, hb⟩
  go_wp2
  go_ret
  exact ⟨rfl, hb⟩

set_option maxRecDepth 100000 in
set_option maxHeartbeats 4000000 in
theorem copyEnts_any (a : Option Addr) (n c : Nat) (d : List EntD) (w : World) (hr : Reads (.sl shEntry) w [.slice a n c] d) (hn : n ≤ 1048576) (hs : ∀ x ∈ d, ByteArray.size x.2.1 ≤ 1048576) :
    Calls Try.prog 37 #[.slice a n c] w fun e w' => ∃ v, e = .returned v ∧ w'.ownsRow w.heap.size 26 2 v n (cellsE d) ∧ Below w.heap.size w w' := by
  obtain ⟨i0, hi, hz0, hz1, hz2⟩ := info_parts infoEntry
  obtain ⟨hl, hc1, hc2⟩ := reads_len hr
  unfold maxLen at hc2
  have HR : Hid (Reads (.sl shEntry) w [.slice a n c] d) := hr
  have HL : Hid (List.length (α := EntD) d = n) := hl
  have HS : Hid (∀ x ∈ d, ByteArray.size x.2.1 ≤ 1048576) := hs
  clear hr hl hs
  go_enter Try.func37, Try.ntmps37
  go_wp2
  go_loopw [3, 8] (fun v i wr => ∃ (k : Nat) (vv : Value), k ≤ n ∧ i = .int .i64 k ∧ vv = v ∧ wr.ownsRow w.heap.size 26 2 vv k (cellsE (d.take k)) ∧ Below w.heap.size w wr) (fun _ i _ => n - (intOf i).toNat)
  case atStart => exact ⟨0, _, Nat.zero_le _, rfl, rfl, ⟨rfl, .inl ⟨rfl, rfl⟩⟩, Below.refl _ _⟩
  case round =>
    obtain ⟨k, v, hk, rfl, rfl, hown, hbel⟩ := hrel
    by_cases hlt : k < n
    · obtain ⟨b, off, cc, x, rfl, hb, hx, hrx, hcell⟩ := reads_elem HR.out k hlt
      obtain ⟨rfl, ls⟩ := open_Entry hrx
      obtain ⟨y0, ey0⟩ : ∃ y : Int, y = x.1 := ⟨_, rfl⟩
      obtain ⟨y1, ey1⟩ : ∃ y : ByteArray, y = x.2.1 := ⟨_, rfl⟩
      have hsz : y1.size ≤ 1048576 := by rw [ey1]; exact HS.out x (List.mem_of_getElem? hx)
      have HX : Hid (cellsE (d.take (k + 1)) = cellsE (d.take k) ++ [.int .i64 y0, .string y1]) := by
        rw [ey0, ey1]; exact take_cellsE d k x hx
      have g0 : wr.cell? ⟨b, off + k * 2, none⟩ = some (.int .i64 y0) := by rw [ey0]; exact (hbel.cell (p := ⟨b, off + (k * 2 + 0), none⟩) hb).trans (hcell 0 (by decide))
      have g1 : wr.cell? ⟨b, off + k * 2 + 1, none⟩ = some (.string y1) := by rw [ey1]; exact (hbel.cell (p := ⟨b, off + (k * 2 + 1), none⟩) hb).trans (hcell 1 (by decide))
      have qK : Hid (∀ w', Calls Try.prog 42 #[.string y1] w' fun e w'' => e = .returned (.string y1) ∧ Below w'.heap.size w' w'') := fun w' => cloneT_any y1 w' hsz
      have hbs := hbel.size
      obtain ⟨W0, hW0⟩ : ∃ W0, W0 = wr.alloc (.cells #[.int .i64 y0, .string y1] 26) := ⟨_, rfl⟩
      have bw0 : Below wr.heap.size wr W0 := by rw [hW0]; exact (Below.refl _ _).alloc (Nat.le_refl _) _
      have bW0 : Below w.heap.size w W0 := hbel.trans (bw0.mono hbs)
      have hbox : W0.heap[wr.heap.size]? = some (.cells #[.int .i64 y0, .string y1] 26 (0, 0)) := by rw [hW0]; exact heap_alloc_new wr _
      have zlt0 : wr.heap.size < W0.heap.size := by rw [hW0]; simp
      have BX : Hid (∀ w', Below W0.heap.size W0 w' → w'.cell? ⟨wr.heap.size, 0, none⟩ = some (.int .i64 y0) ∧ w'.cell? ⟨wr.heap.size, 1, none⟩ = some (.string y1)) := fun w' h' => by
        have i := (h'.block _ zlt0).trans hbox
        exact ⟨box_cell i rfl, box_cell i rfl⟩
      have HW0 : Hid (W0 = wr.alloc (.cells #[.int .i64 y0, .string y1] 26)) := hW0
      have bD0 : Below W0.heap.size W0 W0.drew := (Below.refl _ _).drew
      obtain ⟨v0, v1⟩ := BX.out W0 (Below.refl _ _)
      have HV : Hid (∀ y, v.ownBlock = some y → y < wr.heap.size) := fun y hy => (hown.lt y hy).2
      have BX3 : Hid (∀ w' : World, w'.heap[wr.heap.size]? = W0.heap[wr.heap.size]? → w'.cell? ⟨wr.heap.size, 0, none⟩ = some (.int .i64 y0) ∧ w'.cell? ⟨wr.heap.size, 1, none⟩ = some (.string y1)) := fun w' h' => by
        have i := h'.trans hbox
        exact ⟨box_cell i rfl, box_cell i rfl⟩
      have HO : Hid (∀ w', Below W0.heap.size W0 w' → w'.ownsRow w.heap.size 26 2 v k (cellsE (d.take k))) := fun w' h' => own_later hown (bw0.trans (h'.mono bw0.size))
      clear hcell hrx hx ey0 ey1 hW0 hbox hown
      go_wp2_with fail
      rw [← HW0.out]
      refine wp_region_held_drew (S := fun w' => w'.cell? ⟨wr.heap.size, 0, none⟩ = some (.int .i64 y0) ∧ w'.cell? ⟨wr.heap.size, 1, none⟩ = some (.string y1)) (by kernel_rfl) ⟨v0, v1⟩ (fun hHeld => ?_)
      refine wpAnyH_take (i := 0) (v := v) rfl (by kernel_rfl) (by kernel_rfl) (by kernel_rfl) (fun _ _ _ h => h) (Or.inl ⟨by kernel_rfl, ?_⟩) (by assumption) ?_
      · intro w9 hSw; (try dsimp only at hSw); go_simp
      simp only [Act.put, List.getElem_toArray, List.getElem_cons_succ, List.getElem_cons_zero, List.setIfInBounds_toArray, List.set_cons_zero, List.set_cons_succ]
      refine wpAnyH_take (i := 1) (v := .pointer (some ⟨wr.heap.size, 0, none⟩)) rfl (by kernel_rfl) (by kernel_rfl) (by kernel_rfl) (fun _ _ _ h => h) (Or.inl ⟨by kernel_rfl, ?_⟩) (by assumption) ?_
      · intro w9 hSw; (try dsimp only at hSw); go_simp
      simp only [Act.put, List.getElem_toArray, List.getElem_cons_succ, List.getElem_cons_zero, List.setIfInBounds_toArray, List.set_cons_zero, List.set_cons_succ]
      refine wpAnyH_take (i := 2) (v := .int .i64 y0) rfl (by kernel_rfl) (by kernel_rfl) (by kernel_rfl) (fun _ _ _ h => h) (Or.inl ⟨by kernel_rfl, ?_⟩) (by assumption) ?_
      · intro w9 hSw; (try dsimp only at hSw); go_simp
      simp only [Act.put, List.getElem_toArray, List.getElem_cons_succ, List.getElem_cons_zero, List.setIfInBounds_toArray, List.set_cons_zero, List.set_cons_succ]
      refine wpAnyH_take (i := 3) (v := .pointer (some ⟨wr.heap.size, 1, none⟩)) rfl (by kernel_rfl) (by kernel_rfl) (by kernel_rfl) (fun _ _ _ h => h) (Or.inl ⟨by kernel_rfl, ?_⟩) (by assumption) ?_
      · intro w9 hSw; (try dsimp only at hSw); go_simp
      simp only [Act.put, List.getElem_toArray, List.getElem_cons_succ, List.getElem_cons_zero, List.setIfInBounds_toArray, List.set_cons_zero, List.set_cons_succ]
      refine wpAnyH_take (i := 4) (v := .string y1) rfl (by kernel_rfl) (by kernel_rfl) (by kernel_rfl) (fun _ _ _ h => h) (Or.inl ⟨by kernel_rfl, ?_⟩) (by assumption) ?_
      · intro w9 hSw; (try dsimp only at hSw); go_simp
      simp only [Act.put, List.getElem_toArray, List.getElem_cons_succ, List.getElem_cons_zero, List.setIfInBounds_toArray, List.set_cons_zero, List.set_cons_succ]
      refine wpAnyH_ready (rs := [5]) (by kernel_rfl) (by simp) ?_
      refine AllReadyH.cons rfl (fun K hK => ?_) AllReadyH.nil
      go_simp
      refine (qK.out _).mono ?_
      rintro e w1 ⟨rfl, hb1⟩
      have d1 : Below W0.heap.size W0 w1 := bD0.trans (hb1.mono bD0.size)
      clear hb1
      go_wp2_with fail
      refine hK.out _ _ (BX.out w1 d1) (fun hHeld5 => ?_)
      clear hK
      refine wpAnyH_take (i := 6) (v := .agg #[.int .i64 y0, .string y1]) rfl (by kernel_rfl) (by kernel_rfl) (by kernel_rfl) (fun _ _ _ h => h) (Or.inl ⟨by kernel_rfl, ?_⟩) (by assumption) ?_
      · intro w9 hSw; (try dsimp only at hSw); go_simp
      simp only [Act.put, List.getElem_toArray, List.getElem_cons_succ, List.getElem_cons_zero, List.setIfInBounds_toArray, List.set_cons_zero, List.set_cons_succ]
      refine wpAnyH_ready (rs := [7]) (by kernel_rfl) (by simp) ?_
      refine AllReadyH.cons rfl (fun K hK => ?_) AllReadyH.nil
      go_simp
      have dA : Below W0.heap.size W0 (w1.alloc (.cells #[.int .i64 y0, .string y1] 26)) := d1.alloc d1.size _
      refine hK.out _ _ (BX.out _ dA) (fun hHeld7 => ?_)
      clear hK
      refine wpAnyH_ready (rs := [8]) (by kernel_rfl) (by simp) ?_
      refine AllReadyH.cons rfl (fun K hK => ?_) AllReadyH.nil
      refine step_append_src (by rfl) _ _ 32 (by rfl) w.heap.size 26 i0 (.agg #[.int .i64 0, .string ByteArray.empty]) 2 24 Try.underlying32 hi hz0 hz1 hz2 rfl (by decide) v k (cellsE (d.take k)) (by rfl) (HO.out _ dA) (.slice (some ⟨w1.heap.size, 0, none⟩) 1 1) 1 [.int .i64 y0, .string y1] (by rfl) rfl (.inr ⟨_, 1, rfl, cells_new w1 [.int .i64 y0, .string y1] 26⟩) (by intro u hu; simp at hu; rcases hu with rfl | rfl <;> rfl) (by unfold maxLen; omega) (by omega) (bW0.trans (dA.mono bW0.size)).size ?_
      intro v3 w3 o3 gr3
      have bA := bW0.trans (dA.mono bW0.size)
      have b3 : Below w.heap.size w w3 := bA.grown gr3 bA.size (fun y h => ((HO.out _ dA).lt y h).1)
      have hlo : ∀ y, v.ownBlock = some y → y < wr.heap.size := HV.out
      have i3 : w3.heap[wr.heap.size]? = W0.heap[wr.heap.size]? := (gr3.block _ (by have := dA.size; omega) (fun e => by have := hlo _ e.symm; omega)).trans (dA.block _ zlt0)
      simp only [Act.put, List.setIfInBounds_toArray, List.set_cons_zero, List.set_cons_succ]
      refine hK.out _ _ (BX3.out _ i3) (fun hHeld8 => ?_)
      clear hK
      refine wpAnyH_take (i := 9) (v := v3) rfl (by kernel_rfl) (by kernel_rfl) (by kernel_rfl) (fun _ _ _ h => h) (Or.inl ⟨by kernel_rfl, ?_⟩) (by assumption) ?_
      · intro w9 hSw; (try dsimp only at hSw); go_simp
      simp only [Act.put, List.getElem_toArray, List.getElem_cons_succ, List.getElem_cons_zero, List.setIfInBounds_toArray, List.set_cons_zero, List.set_cons_succ]
      refine wpAnyH_done (by kernel_rfl) ?_ _
      rw [← HX.out] at o3
      clear gr3 i3
      go_wp2
      go_roundw
      case rel => exact ⟨k + 1, _, by omega, by go_num, rfl, o3, b3⟩
      case measure => simp [intOf]; omega
    · have e : k = n := by omega
      subst e
      have ho : wr.ownsRow w.heap.size 26 2 v k (cellsE d) := by
        have h9 := hown
        rwa [List.take_of_length_le (Nat.le_of_eq HL.out)] at h9
      clear hown
      go_wp2
      go_ret
      exact ⟨_, rfl, ho, hbel⟩

end Go.Proofs.Ytcmipfpblnbccaa
