/-
  The sheet's scroll. By program (grmgen.py).
-/
import Derived.Test.YtmiggbdlhajkiaaGrW
import Derived.Deep.RegionHeld3
namespace Go.Proofs.Ytmiggbdlhajkiaa
open Go.RowKit
set_option linter.unusedVariables false
set_option linter.unusedSimpArgs false

/-- Each row holds what the one below it held, the last one blanks. -/
def scr (b : Int) (W : Nat) (zs : List Int) : List Int := zs.drop W ++ List.replicate W b
theorem scr_len {b : Int} {W : Nat} {zs : List Int} (h : W ≤ zs.length) : (scr b W zs).length = zs.length := by unfold scr; simp; omega

theorem scr_src {w : World} {g W : Nat} {zs : List Int} (h : w.heap[g]? = some (.cells (zs.map (Value.int .i64)).toArray 3 (0, 0))) : ∀ j v, ((zs.drop W).map (Value.int .i64))[j]? = some v → w.cell? ((⟨g, W, none⟩ : Addr).add j) = some v := by
  intro j v hv
  have e : (⟨g, W, none⟩ : Addr).add j = ⟨g, W + j, none⟩ := by cases j <;> simp [Addr.add]
  rw [e]
  refine box_cell h ?_
  rw [List.map_drop, List.getElem?_drop] at hv
  simpa using hv

theorem scr_step (W : Nat) (zs : List Int) (h : W ≤ zs.length) :
    (((zs.drop W).map (Value.int .i64) ++ (zs.map (Value.int .i64)).drop (zs.length - W)).take (zs.length - W) ++ (List.replicate W (Value.int .i64 0) ++ ((zs.drop W).map (Value.int .i64) ++ (zs.map (Value.int .i64)).drop (zs.length - W)).drop (zs.length - W + W))) = (scr 0 W zs).map (Value.int .i64) := by
  have l1 : ((zs.drop W).map (Value.int .i64)).length = zs.length - W := by simp
  rw [List.take_append_of_le_length (by omega), List.take_of_length_le (by omega)]
  have l2 : ((zs.drop W).map (Value.int .i64) ++ (zs.map (Value.int .i64)).drop (zs.length - W)).drop (zs.length - W + W) = [] := by
    apply List.drop_eq_nil_of_le
    simp; omega
  rw [l2, List.append_nil]
  unfold scr
  simp

set_option maxRecDepth 100000 in
set_option maxHeartbeats 4000000 in
theorem scroll_any (p g n B W : Nat) (H X Y : Int) (wr : Bool) (zs : List Int) (w : World) (hs : SheetAt w B p g n W H X Y wr zs) (hW : 2 ≤ W) (hWn : W ≤ n) (hn : n ≤ 8000) :
    Calls Try.prog 46 #[.pointer (some ⟨p, 0, none⟩)] w fun e w' => e = .returned (.tuple #[]) ∧ SheetAt w' B p g n W H X Y wr (scr 0 W zs) ∧ Touch w w' [p, g] := by
  obtain ⟨hBg, hgx, hmx⟩ := row_exact (by omega) hs.row
  have hlen := hs.len
  have y0 : w.cell? ⟨p, 0, none⟩ = some (.int .i64 W) := box_cell hs.box rfl
  have y2 : w.cell? ⟨p, 2, none⟩ = some (.slice (some ⟨g, 0, none⟩) n n) := box_cell hs.box rfl
  obtain ⟨m, hm⟩ : ∃ m, n = m + W := ⟨n - W, by omega⟩
  have HS : Hid (SheetAt w B p g n W H X Y wr zs) := hs
  have HG : Hid (w.heap[g]? = some (.cells (zs.map (Value.int .i64)).toArray 3 (0, 0))) := hgx
  have HL : Hid (zs.length = n ∧ n = m + W ∧ n ≤ maxLen ∧ B ≤ g) := ⟨hlen, hm, hmx, hBg⟩
  have hmn : n - W = m := by omega
  have hmn' : n - m = W := by omega
  have hm1 : (m : Int) ≤ (n : Int) := by omega
  have hm2 : ¬ n = m := by omega
  -- the world behind the copy
  obtain ⟨V, hV⟩ : ∃ V, V = w.drew.setRow g ((zs.map (Value.int .i64)).take 0 ++ ((zs.drop W).map (Value.int .i64) ++ (zs.map (Value.int .i64)).drop (0 + ((zs.drop W).map (Value.int .i64)).length))).toArray := ⟨_, rfl⟩
  have hVg : V.heap[g]? = some (.cells ((zs.drop W).map (Value.int .i64) ++ (zs.map (Value.int .i64)).drop (zs.length - W)).toArray 3 (0, 0)) := by
    rw [hV]
    have := setRow_heap w.drew g (zs.map (Value.int .i64)).toArray ((zs.map (Value.int .i64)).take 0 ++ ((zs.drop W).map (Value.int .i64) ++ (zs.map (Value.int .i64)).drop (0 + ((zs.drop W).map (Value.int .i64)).length))).toArray 3 (0, 0) hgx
    rw [this]
    simp
  have hVp : V.heap[p]? = some (.cells #[.int .i64 W, .int .i64 H, .slice (some ⟨g, 0, none⟩) n n, .int .i64 X, .int .i64 Y, .bool wr] 48 (0, 0)) := by rw [hV]; exact (setRow_other _ _ _ _ hs.ne).trans hs.box
  have tV : Touch w V [g] := by rw [hV]; exact ⟨rfl, rfl, rfl, by simp [World.setRow], fun i hi hf => setRow_other w.drew _ _ _ (fun e => hf (by simp [e]))⟩
  have hcl : ∀ ty c, (Builtin.clear_ #[22] ty #[.slice (some ⟨g, m, none⟩) W c]).run Try.prog V = .ok (.tuple #[]) (V.setCells g m (List.replicate W (.int .i64 0))) := fun ty c => clear_ints hVg (by omega) (by simp; omega)
  have HV : Hid (V = _ ∧ V.heap[p]? = some (.cells #[.int .i64 W, .int .i64 H, .slice (some ⟨g, 0, none⟩) n n, .int .i64 X, .int .i64 Y, .bool wr] 48 (0, 0)) ∧ Touch w V [g]) := ⟨hV, hVp, tV⟩
  have HF : Hid ((V.setCells g m (List.replicate W (.int .i64 0))).heap[g]? = some (.cells ((scr 0 W zs).map (Value.int .i64)).toArray 3 (0, 0))) := by
    have := setCells_row (List.replicate W (Value.int .i64 0)) m V _ hVg (by simp; omega)
    show _ = _
    rw [this, List.length_replicate]
    have e := scr_step W zs (by omega)
    rw [hlen, hmn] at e
    rw [hlen, hmn, e]
  have z0 : V.cell? ⟨p, 2, none⟩ = some (.slice (some ⟨g, 0, none⟩) n n) := box_cell hVp rfl
  obtain ⟨sa, hsa, hsrc⟩ : ∃ sa : Addr, (if m = 0 then (some ⟨g, 0, none⟩ : Option Addr) else some ⟨g, W, none⟩) = some sa ∧ ∀ j v, ((zs.drop W).map (Value.int .i64))[j]? = some v → w.cell? (sa.add j) = some v := by
    by_cases h0 : m = 0
    · refine ⟨_, if_pos h0, fun j v hv => ?_⟩
      have : j < ((zs.drop W).map (Value.int .i64)).length := (List.getElem?_eq_some_iff.1 hv).1
      simp at this; omega
    · exact ⟨_, if_neg h0, scr_src hgx⟩
  have HSRC : Hid (∀ j v, ((zs.drop W).map (Value.int .i64))[j]? = some v → w.cell? (sa.add j) = some v) := hsrc
  have hWm : (W : Int) ≤ (m : Int) + (W : Int) := by omega
  have HMN : Hid (m ≤ n) := by show m ≤ n; omega
  clear hs hgx hV hVg hVp tV hsrc
  go_enter Try.func46, Try.ntmps46
  go_wp2_with fail
  refine wp_region_held_drew (S := fun w' => w'.cell? ⟨p, 0, none⟩ = some (.int .i64 W) ∧ w'.cell? ⟨p, 2, none⟩ = some (.slice (some ⟨g, 0, none⟩) n n)) (by kernel_rfl) (show w.cell? _ = _ ∧ w.cell? _ = _ from ⟨y0, y2⟩) (fun hHeld => ?_)
  refine wpAnyH_take (i := 0) (v := .pointer (some ⟨p, 0, none⟩)) rfl (by kernel_rfl) (by kernel_rfl) (by kernel_rfl) (fun _ _ _ h => h) (Or.inl ⟨by kernel_rfl, ?_⟩) (by assumption) ?_
  · intro w9 hSw; (try dsimp only at hSw); go_simp
  simp only [Act.put, List.getElem_toArray, List.getElem_cons_succ, List.getElem_cons_zero, List.setIfInBounds_toArray, List.set_cons_zero, List.set_cons_succ]
  refine wpAnyH_take (i := 1) (v := .pointer (some ⟨p, 0, none⟩)) rfl (by kernel_rfl) (by kernel_rfl) (by kernel_rfl) (fun _ _ _ h => h) (Or.inl ⟨by kernel_rfl, ?_⟩) (by assumption) ?_
  · intro w9 hSw; (try dsimp only at hSw); go_simp
  simp only [Act.put, List.getElem_toArray, List.getElem_cons_succ, List.getElem_cons_zero, List.setIfInBounds_toArray, List.set_cons_zero, List.set_cons_succ]
  refine wpAnyH_take (i := 2) (v := .pointer (some ⟨p, 2, none⟩)) rfl (by kernel_rfl) (by kernel_rfl) (by kernel_rfl) (fun _ _ _ h => h) (Or.inl ⟨by kernel_rfl, ?_⟩) (by assumption) ?_
  · intro w9 hSw; (try dsimp only at hSw); go_simp
  simp only [Act.put, List.getElem_toArray, List.getElem_cons_succ, List.getElem_cons_zero, List.setIfInBounds_toArray, List.set_cons_zero, List.set_cons_succ]
  refine wpAnyH_take (i := 3) (v := .slice (some ⟨g, 0, none⟩) n n) rfl (by kernel_rfl) (by kernel_rfl) (by kernel_rfl) (fun _ _ _ h => h) (Or.inl ⟨by kernel_rfl, ?_⟩) (by assumption) ?_
  · intro w9 hSw; (try dsimp only at hSw); go_simp
  simp only [Act.put, List.getElem_toArray, List.getElem_cons_succ, List.getElem_cons_zero, List.setIfInBounds_toArray, List.set_cons_zero, List.set_cons_succ]
  refine wpAnyH_take (i := 4) (v := .pointer (some ⟨p, 0, none⟩)) rfl (by kernel_rfl) (by kernel_rfl) (by kernel_rfl) (fun _ _ _ h => h) (Or.inl ⟨by kernel_rfl, ?_⟩) (by assumption) ?_
  · intro w9 hSw; (try dsimp only at hSw); go_simp
  simp only [Act.put, List.getElem_toArray, List.getElem_cons_succ, List.getElem_cons_zero, List.setIfInBounds_toArray, List.set_cons_zero, List.set_cons_succ]
  refine wpAnyH_take (i := 5) (v := .pointer (some ⟨p, 0, none⟩)) rfl (by kernel_rfl) (by kernel_rfl) (by kernel_rfl) (fun _ _ _ h => h) (Or.inl ⟨by kernel_rfl, ?_⟩) (by assumption) ?_
  · intro w9 hSw; (try dsimp only at hSw); go_simp
  simp only [Act.put, List.getElem_toArray, List.getElem_cons_succ, List.getElem_cons_zero, List.setIfInBounds_toArray, List.set_cons_zero, List.set_cons_succ]
  refine wpAnyH_take (i := 6) (v := .pointer (some ⟨p, 2, none⟩)) rfl (by kernel_rfl) (by kernel_rfl) (by kernel_rfl) (fun _ _ _ h => h) (Or.inl ⟨by kernel_rfl, ?_⟩) (by assumption) ?_
  · intro w9 hSw; (try dsimp only at hSw); go_simp
  simp only [Act.put, List.getElem_toArray, List.getElem_cons_succ, List.getElem_cons_zero, List.setIfInBounds_toArray, List.set_cons_zero, List.set_cons_succ]
  refine wpAnyH_take (i := 7) (v := .slice (some ⟨g, 0, none⟩) n n) rfl (by kernel_rfl) (by kernel_rfl) (by kernel_rfl) (fun _ _ _ h => h) (Or.inl ⟨by kernel_rfl, ?_⟩) (by assumption) ?_
  · intro w9 hSw; (try dsimp only at hSw); go_simp
  simp only [Act.put, List.getElem_toArray, List.getElem_cons_succ, List.getElem_cons_zero, List.setIfInBounds_toArray, List.set_cons_zero, List.set_cons_succ]
  refine wpAnyH_take (i := 8) (v := .pointer (some ⟨p, 0, none⟩)) rfl (by kernel_rfl) (by kernel_rfl) (by kernel_rfl) (fun _ _ _ h => h) (Or.inl ⟨by kernel_rfl, ?_⟩) (by assumption) ?_
  · intro w9 hSw; (try dsimp only at hSw); go_simp
  simp only [Act.put, List.getElem_toArray, List.getElem_cons_succ, List.getElem_cons_zero, List.setIfInBounds_toArray, List.set_cons_zero, List.set_cons_succ]
  refine wpAnyH_take (i := 9) (v := .pointer (some ⟨p, 0, none⟩)) rfl (by kernel_rfl) (by kernel_rfl) (by kernel_rfl) (fun _ _ _ h => h) (Or.inl ⟨by kernel_rfl, ?_⟩) (by assumption) ?_
  · intro w9 hSw; (try dsimp only at hSw); go_simp
  simp only [Act.put, List.getElem_toArray, List.getElem_cons_succ, List.getElem_cons_zero, List.setIfInBounds_toArray, List.set_cons_zero, List.set_cons_succ]
  refine wpAnyH_take (i := 10) (v := .pointer (some ⟨p, 0, none⟩)) rfl (by kernel_rfl) (by kernel_rfl) (by kernel_rfl) (fun _ _ _ h => h) (Or.inl ⟨by kernel_rfl, ?_⟩) (by assumption) ?_
  · intro w9 hSw; (try dsimp only at hSw); go_simp
  simp only [Act.put, List.getElem_toArray, List.getElem_cons_succ, List.getElem_cons_zero, List.setIfInBounds_toArray, List.set_cons_zero, List.set_cons_succ]
  refine wpAnyH_take (i := 11) (v := .int .i64 W) rfl (by kernel_rfl) (by kernel_rfl) (by kernel_rfl) (fun _ _ _ h => h) (Or.inl ⟨by kernel_rfl, ?_⟩) (by assumption) ?_
  · intro w9 hSw; (try dsimp only at hSw); go_simp
  simp only [Act.put, List.getElem_toArray, List.getElem_cons_succ, List.getElem_cons_zero, List.setIfInBounds_toArray, List.set_cons_zero, List.set_cons_succ]
  refine wpAnyH_take (i := 12) (v := .slice (some sa) m m) rfl (by kernel_rfl) (by kernel_rfl) (by kernel_rfl) (fun _ _ _ h => h) (Or.inl ⟨by kernel_rfl, ?_⟩) (by assumption) ?_
  · intro w9 hSw; (try dsimp only at hSw); go_simp
  simp only [Act.put, List.getElem_toArray, List.getElem_cons_succ, List.getElem_cons_zero, List.setIfInBounds_toArray, List.set_cons_zero, List.set_cons_succ]
  refine wpAnyH_ready (rs := [13]) (by kernel_rfl) (by simp) ?_
  refine AllReadyH.cons rfl (fun K hK => ?_) AllReadyH.nil
  refine step_copy_row rfl _ _ 22 22 (by rfl) 3 Try.underlying22 (by kernel_rfl) n n m m g 0 sa (by rfl) (by rfl) (zs.map (Value.int .i64)) 3 HG.out ((zs.drop W).map (Value.int .i64)) ?k1 ?k2 ?k3 ?k4 ?_
  case k1 => show _ = Nat.min m n; rw [show Nat.min m n = m from Nat.min_eq_left HMN.out]; have := HL.out.1; have := HL.out.2.1; simp; omega
  case k2 => exact HSRC.out
  case k3 => simp
  case k4 => intro v hv; obtain ⟨z, _, rfl⟩ := List.mem_map.1 hv; rfl
  rw [← HV.out.1]
  refine hK.out _ _ (show V.cell? _ = _ ∧ V.cell? _ = _ from ⟨box_cell HV.out.2.1 rfl, z0⟩) (fun hHeld13 => ?_)
  clear hK
  refine wpAnyH_take (i := 14) (v := .int .i64 m) rfl (by kernel_rfl) (by kernel_rfl) (by kernel_rfl) (fun _ _ _ h => h) (Or.inl ⟨by kernel_rfl, ?_⟩) (by assumption) ?_
  · intro w9 hSw; (try dsimp only at hSw); go_simp
  simp only [Act.put, List.getElem_toArray, List.getElem_cons_succ, List.getElem_cons_zero, List.setIfInBounds_toArray, List.set_cons_zero, List.set_cons_succ]
  refine wpAnyH_done (by kernel_rfl) ?_ _
  go_wp2
  refine bodyPost_end (v := .tuple #[]) (by simp [results, Try.results46, go_sem]) rfl ⟨rfl, ⟨?_, ?_, ?_, HS.out.lo, HS.out.ne⟩, ?_⟩
  · exact (((touch_setCells (List.replicate W (Value.int .i64 0)) m V).block p (box_lt HV.out.2.1) (by simp; exact HS.out.ne))).trans HV.out.2.1
  · exact exact_row HL.out.2.2.2 (by rw [scr_len (by have := HL.out.1; omega)]; exact HL.out.1) HL.out.2.2.1 HF.out
  · rw [scr_len (by have := HL.out.1; omega)]; exact HL.out.1
  · exact (HV.out.2.2.trans (touch_setCells _ _ _)).mono fun z hz => by simp at hz; simp [hz]

end Go.Proofs.Ytmiggbdlhajkiaa
