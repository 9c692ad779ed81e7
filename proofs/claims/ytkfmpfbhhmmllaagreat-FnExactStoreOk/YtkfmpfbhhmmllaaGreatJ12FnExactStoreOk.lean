/-
  Joined: ScS, EnsI, ScI, VEntry, LScan, WScan.
-/
import Derived.Test.YtkfmpfbhhmmllaaGreatJ9FnExactStoreOk
import Derived.Test.YtkfmpfbhhmmllaaGreatJ11FnExactStoreOk
import Derived.Test.YtkfmpfbhhmmllaaGreatJ4FnExactStoreOk
import Derived.Test.YtkfmpfbhhmmllaaGreatJ2FnExactStoreOk
import Derived.Deep.RegionHeld3
import Derived.Test.YtkfmpfbhhmmllaaGreatJ3FnExactStoreOk
/- ScS: Scan of the model. By program (scgen.py). -/

import Derived.Deep.RegionHeld3
namespace Go.Proofs.YtkfmpfbhhmmllaaGreat
open Go.RowKit
set_option linter.unusedVariables false
set_option maxRecDepth 100000
set_option linter.unusedSimpArgs false

set_option maxRecDepth 100000 in
set_option maxHeartbeats 4000000 in
theorem specScan_any (v : Value) (zs : List Int) (w : World) (hr : Reads (.sl .u8) w [v] zs) (hn : zs.length ≤ 1048576) :
    Calls Tryz.prog 33 #[v] w fun e w' => ∃ u, e = .returned (.tuple #[u, .int .i64 ((scanA zs).2 : Int)]) ∧ w'.ownsRow w.heap.size 71 2 u (scanA zs).1.length (cellsE (scanA zs).1) ∧ Hid (AccOk (scanA zs).1 ∧ (scanA zs).2 ≤ zs.length) ∧ Below w.heap.size w w' := by
  obtain ⟨i0, hi, hz0, hz1, hz2⟩ := info_parts infoEntry
  obtain ⟨R, hR⟩ : ∃ R, R = scanA zs := ⟨_, rfl⟩
  rw [← hR]
  obtain ⟨n, hnz⟩ : ∃ n, n = zs.length := ⟨_, rfl⟩
  rw [← hnz] at hn ⊢
  have hz : Byt zs := by
    obtain ⟨a, c, rfl, _, _⟩ := reads_val hr
    exact (reads_bytes hr).2.1.1
  have qF : Hid (∀ w' (p : Nat), Below w.heap.size w w' → p ≤ n → Calls Tryz.prog 74 #[v, .int .i64 (p : Int)] w' fun e w'' => e = .returned (.tuple #[.agg #[.int .i64 (frAns zs (p : Int)).1, .string (frAns zs (p : Int)).2.1], .int .i64 (frAns zs (p : Int)).2.2.1, .int .i64 (frAns zs (p : Int)).2.2.2]) ∧ Below w'.heap.size w' w'') := fun w' p hb hp => rf_spec v zs p w' (hr.later hb) (by omega) (by omega) (by omega)
  have qOk : Hid (∀ p : Nat, (frAns zs (p : Int)).2.2.2 = 0 → 1 ≤ (frAns zs (p : Int)).1 ∧ (frAns zs (p : Int)).1 ≤ 1000000000 ∧ (frAns zs (p : Int)).2.1.size ≤ 1000 ∧ ∃ nx : Nat, (frAns zs (p : Int)).2.2.1 = (nx : Int) ∧ p + 11 ≤ nx ∧ nx ≤ n) := fun p h => by rw [hnz]; exact fr_ok zs hz p h
  have HR0 : Hid (R = scanL zs (n + 1) [] 0) := by show _ = _; rw [hR, hnz]; rfl
  clear hr hR hnz hz
  have HO : Hid ((w.alloc (.cells #[] 71)).ownsRow w.heap.size 71 2 (.slice (some ⟨w.heap.size, 0, none⟩) 0 0) 0 []) := World.ownsRow_lit (base := w.heap.size) (e := 71) (size := 2) w #[] 0 (Nat.le_refl _) (Nat.zero_le _) rfl
  have bA : Below w.heap.size w (w.alloc (.cells #[] 71)) := (Below.refl _ _).alloc (Nat.le_refl _) _
  go_enter Tryz.func33, Tryz.ntmps33
  go_wp2
  go_loopw [4, 5] (fun u i wr => ∃ (f p m : Nat) (acc : List EntD) (uu : Value), uu = u ∧ i = .int .i64 p ∧ wr.ownsRow w.heap.size 71 2 uu m (cellsE acc) ∧ Hid (acc.length = m ∧ R = scanL zs f acc p ∧ n + 1 ≤ f + p ∧ AccOk acc) ∧ p ≤ n ∧ m ≤ p ∧ Below w.heap.size w wr) (fun _ i _ => n + 1 - (intOf i).toNat)
  case atStart => exact ⟨n + 1, 0, 0, [], _, rfl, rfl, HO.out, ⟨rfl, HR0.out, by omega, fun x hx => by cases hx⟩, by omega, by omega, bA⟩
  case round =>
    obtain ⟨f, p, m, acc, u, rfl, rfl, hown, HA, hp, hm, hbel⟩ := hrel
    obtain ⟨ua, uc, rfl⟩ := own_sliceE hown
    have hbs := hbel.size
    obtain ⟨y0, hy0⟩ : ∃ y, y = (frAns zs (p : Int)).1 := ⟨_, rfl⟩
    obtain ⟨y1, hy1⟩ : ∃ y, y = (frAns zs (p : Int)).2.1 := ⟨_, rfl⟩
    obtain ⟨nx, hnx⟩ : ∃ y, y = (frAns zs (p : Int)).2.2.1 := ⟨_, rfl⟩
    obtain ⟨cd, hcd⟩ : ∃ y, y = (frAns zs (p : Int)).2.2.2 := ⟨_, rfl⟩
    have q1 : Hid (∀ w', Below w.heap.size w w' → Calls Tryz.prog 74 #[v, .int .i64 (p : Int)] w' fun e w'' => e = .returned (.tuple #[.agg #[.int .i64 y0, .string y1], .int .i64 nx, .int .i64 cd]) ∧ Below w'.heap.size w' w'') := fun w' hb' => by rw [hy0, hy1, hnx, hcd]; exact qF.out w' p hb' hp
    have hgo : goesOn zs acc p = (decide (cd = 0) && linkB (lastNum acc) y0) := by rw [hy0, hcd]; rfl
    have hrec : recOf zs p = (y0, y1, ()) := by rw [hy0, hy1]; rfl
    have hok := qOk.out p
    rw [← hy0, ← hy1, ← hnx, ← hcd] at hok
    have hsc := HA.out.2.1
    have hff := HA.out.2.2.1
    have hon : goesOn zs acc p = true → R = scanL zs (f - 1) (acc ++ [(y0, y1, ())]) nx.toNat := fun h => by rw [hsc, scanL_on zs f acc p h (by omega), hrec, hnx]
    have hend : goesOn zs acc p = false → R = (acc, p) := fun h => by rw [hsc, scanL_end zs f acc p h]
    have HFin : Hid (goesOn zs acc p = false → ∀ W : World, W.ownsRow w.heap.size 71 2 (.slice ua m uc) m (cellsE acc) → (p : Int) = (R.2 : Int) ∧ W.ownsRow w.heap.size 71 2 (.slice ua m uc) R.1.length (cellsE R.1) ∧ Hid (AccOk R.1 ∧ R.2 ≤ n)) := fun h W hW => by
      have e := hend h
      rw [e]
      refine ⟨rfl, ?_, ⟨HA.out.2.2.2, hp⟩⟩
      show W.ownsRow _ _ _ _ acc.length _
      rw [HA.out.1]; exact hW
    go_wp2_with fail
    refine (q1.out _ hbel).mono ?_
    rintro e w2 ⟨rfl, hb2⟩
    have b2 := hbel.trans (hb2.mono hbs)
    have ho2 := own_later hown hb2
    obtain ⟨W0, hW0⟩ : ∃ W0, W0 = w2.alloc (.cells #[.int .i64 y0, .string y1] 71) := ⟨_, rfl⟩
    have bw0 : Below w2.heap.size w2 W0 := by rw [hW0]; exact (Below.refl _ _).alloc (Nat.le_refl _) _
    have bW0 : Below w.heap.size w W0 := b2.trans (bw0.mono b2.size)
    have hbox : W0.heap[w2.heap.size]? = some (.cells #[.int .i64 y0, .string y1] 71 (0, 0)) := by rw [hW0]; exact heap_alloc_new w2 _
    have zlt0 : w2.heap.size < W0.heap.size := by rw [hW0]; simp
    have HW0 : Hid (W0 = w2.alloc (.cells #[.int .i64 y0, .string y1] 71)) := hW0
    have ho3 := own_later ho2 bw0
    have HO3 : Hid (W0.ownsRow w.heap.size 71 2 (.slice ua m uc) m (cellsE acc)) := ho3
    have BX : Hid (∀ w', Below W0.heap.size W0 w' → w'.cell? ⟨w2.heap.size, 0, none⟩ = some (.int .i64 y0) ∧ w'.cell? ⟨w2.heap.size, 1, none⟩ = some (.string y1)) := fun w' h' => by
      have i := (h'.block _ zlt0).trans hbox
      exact ⟨box_cell i rfl, box_cell i rfl⟩
    have bD0 : Below W0.heap.size W0 W0.drew := (Below.refl _ _).drew
    obtain ⟨v0, v1⟩ := BX.out W0 (Below.refl _ _)
    clear hown ho2 hW0 hbox hy0 hy1 hnx hcd hrec hsc hb2 bw0 ho3 hend qF qOk q1
    by_cases hc : cd = 0
    case neg =>
      have hgf : goesOn zs acc p = false := by rw [hgo]; simp [hc]
      have FN := HFin.out hgf
      have hc1 : (cd == 0) = false := by simp; exact hc
      clear hgo hok hon HFin hgf
      go_wp2_with fail
      rw [← HW0.out]
      refine wp_region_held_drew (S := fun w' => w'.cell? ⟨w2.heap.size, 0, none⟩ = some (.int .i64 y0) ∧ w'.cell? ⟨w2.heap.size, 1, none⟩ = some (.string y1)) (by kernel_rfl) ⟨v0, v1⟩ (fun hHeld => ?_)
      refine wpAnyH_take (i := 0) (v := .int .i64 cd) rfl (by kernel_rfl) (by kernel_rfl) (by kernel_rfl) (fun _ _ _ h => h) (Or.inl ⟨by kernel_rfl, ?_⟩) (by assumption) ?_
      · intro w9 hSw; (try dsimp only at hSw); go_simp
      simp only [Act.put, List.getElem_toArray, List.getElem_cons_succ, List.getElem_cons_zero, List.setIfInBounds_toArray, List.set_cons_zero, List.set_cons_succ]
      refine wpAnyH_take (i := 1) (v := .bool true) rfl (by kernel_rfl) (by kernel_rfl) (by kernel_rfl) (fun _ _ _ h => h) (Or.inl ⟨by kernel_rfl, ?_⟩) (by assumption) ?_
      · intro w9 hSw; (try dsimp only at hSw); go_simp
      simp only [Act.put, List.getElem_toArray, List.getElem_cons_succ, List.getElem_cons_zero, List.setIfInBounds_toArray, List.set_cons_zero, List.set_cons_succ]
      refine wpAnyH_take (i := 2) (v := .bool true) rfl (by kernel_rfl) (by kernel_rfl) (by kernel_rfl) (fun _ _ _ h => h) (Or.inl ⟨by kernel_rfl, ?_⟩) (by assumption) ?_
      · intro w9 hSw; (try dsimp only at hSw); go_simp
      simp only [Act.put, List.getElem_toArray, List.getElem_cons_succ, List.getElem_cons_zero, List.setIfInBounds_toArray, List.set_cons_zero, List.set_cons_succ]
      refine wpAnyH_take (i := 3) (v := undef) rfl (by kernel_rfl) (by kernel_rfl) (by kernel_rfl) (fun _ _ _ h => h) (Or.inr ⟨by kernel_rfl, rfl⟩) (by assumption) ?_
      simp only [Act.put, List.getElem_toArray, List.getElem_cons_succ, List.getElem_cons_zero, List.setIfInBounds_toArray, List.set_cons_zero, List.set_cons_succ]
      refine wpAnyH_take (i := 4) (v := undef) rfl (by kernel_rfl) (by kernel_rfl) (by kernel_rfl) (fun _ _ _ h => h) (Or.inr ⟨by kernel_rfl, rfl⟩) (by assumption) ?_
      simp only [Act.put, List.getElem_toArray, List.getElem_cons_succ, List.getElem_cons_zero, List.setIfInBounds_toArray, List.set_cons_zero, List.set_cons_succ]
      refine wpAnyH_take (i := 5) (v := undef) rfl (by kernel_rfl) (by kernel_rfl) (by kernel_rfl) (fun _ _ _ h => h) (Or.inr ⟨by kernel_rfl, rfl⟩) (by assumption) ?_
      simp only [Act.put, List.getElem_toArray, List.getElem_cons_succ, List.getElem_cons_zero, List.setIfInBounds_toArray, List.set_cons_zero, List.set_cons_succ]
      refine wpAnyH_take (i := 6) (v := undef) rfl (by kernel_rfl) (by kernel_rfl) (by kernel_rfl) (fun _ _ _ h => h) (Or.inr ⟨by kernel_rfl, rfl⟩) (by assumption) ?_
      simp only [Act.put, List.getElem_toArray, List.getElem_cons_succ, List.getElem_cons_zero, List.setIfInBounds_toArray, List.set_cons_zero, List.set_cons_succ]
      refine wpAnyH_take (i := 7) (v := undef) rfl (by kernel_rfl) (by kernel_rfl) (by kernel_rfl) (fun _ _ _ h => h) (Or.inr ⟨by kernel_rfl, rfl⟩) (by assumption) ?_
      simp only [Act.put, List.getElem_toArray, List.getElem_cons_succ, List.getElem_cons_zero, List.setIfInBounds_toArray, List.set_cons_zero, List.set_cons_succ]
      refine wpAnyH_take (i := 8) (v := undef) rfl (by kernel_rfl) (by kernel_rfl) (by kernel_rfl) (fun _ _ _ h => h) (Or.inr ⟨by kernel_rfl, rfl⟩) (by assumption) ?_
      simp only [Act.put, List.getElem_toArray, List.getElem_cons_succ, List.getElem_cons_zero, List.setIfInBounds_toArray, List.set_cons_zero, List.set_cons_succ]
      refine wpAnyH_take (i := 9) (v := undef) rfl (by kernel_rfl) (by kernel_rfl) (by kernel_rfl) (fun _ _ _ h => h) (Or.inr ⟨by kernel_rfl, rfl⟩) (by assumption) ?_
      simp only [Act.put, List.getElem_toArray, List.getElem_cons_succ, List.getElem_cons_zero, List.setIfInBounds_toArray, List.set_cons_zero, List.set_cons_succ]
      refine wpAnyH_take (i := 10) (v := undef) rfl (by kernel_rfl) (by kernel_rfl) (by kernel_rfl) (fun _ _ _ h => h) (Or.inr ⟨by kernel_rfl, rfl⟩) (by assumption) ?_
      simp only [Act.put, List.getElem_toArray, List.getElem_cons_succ, List.getElem_cons_zero, List.setIfInBounds_toArray, List.set_cons_zero, List.set_cons_succ]
      refine wpAnyH_take (i := 11) (v := undef) rfl (by kernel_rfl) (by kernel_rfl) (by kernel_rfl) (fun _ _ _ h => h) (Or.inr ⟨by kernel_rfl, rfl⟩) (by assumption) ?_
      simp only [Act.put, List.getElem_toArray, List.getElem_cons_succ, List.getElem_cons_zero, List.setIfInBounds_toArray, List.set_cons_zero, List.set_cons_succ]
      refine wpAnyH_take (i := 12) (v := undef) rfl (by kernel_rfl) (by kernel_rfl) (by kernel_rfl) (fun _ _ _ h => h) (Or.inr ⟨by kernel_rfl, rfl⟩) (by assumption) ?_
      simp only [Act.put, List.getElem_toArray, List.getElem_cons_succ, List.getElem_cons_zero, List.setIfInBounds_toArray, List.set_cons_zero, List.set_cons_succ]
      refine wpAnyH_take (i := 13) (v := undef) rfl (by kernel_rfl) (by kernel_rfl) (by kernel_rfl) (fun _ _ _ h => h) (Or.inr ⟨by kernel_rfl, rfl⟩) (by assumption) ?_
      simp only [Act.put, List.getElem_toArray, List.getElem_cons_succ, List.getElem_cons_zero, List.setIfInBounds_toArray, List.set_cons_zero, List.set_cons_succ]
      refine wpAnyH_take (i := 14) (v := undef) rfl (by kernel_rfl) (by kernel_rfl) (by kernel_rfl) (fun _ _ _ h => h) (Or.inr ⟨by kernel_rfl, rfl⟩) (by assumption) ?_
      simp only [Act.put, List.getElem_toArray, List.getElem_cons_succ, List.getElem_cons_zero, List.setIfInBounds_toArray, List.set_cons_zero, List.set_cons_succ]
      refine wpAnyH_take (i := 15) (v := undef) rfl (by kernel_rfl) (by kernel_rfl) (by kernel_rfl) (fun _ _ _ h => h) (Or.inr ⟨by kernel_rfl, rfl⟩) (by assumption) ?_
      simp only [Act.put, List.getElem_toArray, List.getElem_cons_succ, List.getElem_cons_zero, List.setIfInBounds_toArray, List.set_cons_zero, List.set_cons_succ]
      refine wpAnyH_take (i := 16) (v := undef) rfl (by kernel_rfl) (by kernel_rfl) (by kernel_rfl) (fun _ _ _ h => h) (Or.inr ⟨by kernel_rfl, rfl⟩) (by assumption) ?_
      simp only [Act.put, List.getElem_toArray, List.getElem_cons_succ, List.getElem_cons_zero, List.setIfInBounds_toArray, List.set_cons_zero, List.set_cons_succ]
      refine wpAnyH_take (i := 17) (v := undef) rfl (by kernel_rfl) (by kernel_rfl) (by kernel_rfl) (fun _ _ _ h => h) (Or.inr ⟨by kernel_rfl, rfl⟩) (by assumption) ?_
      simp only [Act.put, List.getElem_toArray, List.getElem_cons_succ, List.getElem_cons_zero, List.setIfInBounds_toArray, List.set_cons_zero, List.set_cons_succ]
      refine wpAnyH_take (i := 18) (v := undef) rfl (by kernel_rfl) (by kernel_rfl) (by kernel_rfl) (fun _ _ _ h => h) (Or.inr ⟨by kernel_rfl, rfl⟩) (by assumption) ?_
      simp only [Act.put, List.getElem_toArray, List.getElem_cons_succ, List.getElem_cons_zero, List.setIfInBounds_toArray, List.set_cons_zero, List.set_cons_succ]
      refine wpAnyH_take (i := 19) (v := .bool true) rfl (by kernel_rfl) (by kernel_rfl) (by kernel_rfl) (fun _ _ _ h => h) (Or.inl ⟨by kernel_rfl, ?_⟩) (by assumption) ?_
      · intro w9 hSw; (try dsimp only at hSw); go_simp
      simp only [Act.put, List.getElem_toArray, List.getElem_cons_succ, List.getElem_cons_zero, List.setIfInBounds_toArray, List.set_cons_zero, List.set_cons_succ]
      refine wpAnyH_done (by kernel_rfl) ?_ _
      go_wp2
      go_ret2
      exact ⟨_, by rw [← (FN W0.drew (own_later HO3.out bD0)).1]; rfl, (FN W0.drew (own_later HO3.out bD0)).2.1, (FN W0.drew (own_later HO3.out bD0)).2.2, bW0.drew⟩
    subst hc
    obtain ⟨k1, k2, k3, nn, k4, k5, k6⟩ := hok rfl
    subst k4
    have FNX : Hid (goesOn zs acc p = true → (acc ++ [(y0, y1, ())]).length = m + 1 ∧ R = scanL zs (f - 1) (acc ++ [(y0, y1, ())]) nn ∧ n + 1 ≤ f - 1 + nn ∧ AccOk (acc ++ [(y0, y1, ())])) := fun h => by
      refine ⟨by rw [List.length_append, HA.out.1]; rfl, hon h, by omega, accOk_snoc _ _ HA.out.2.2.2 ⟨k1, k2, k3⟩⟩
    have HCE : Hid (cellsE (acc ++ [(y0, y1, ())]) = cellsE acc ++ [.int .i64 y0, .string y1]) := cellsE_snoc _ _
    clear hok hon
    by_cases hm0 : m = 0
    · have hlk : lastNum acc = none := by unfold lastNum; rw [HA.out.1, hm0]; rfl
      have hgt : goesOn zs acc p = true := by rw [hgo, hlk]; rfl
      have FN := FNX.out hgt
      have e1 : decide ((0 : Int) < (m : Int)) = false := by simp; omega
      have e2 : decide (0 < m) = false := by simp; omega
      have FNh : Hid ((acc ++ [(y0, y1, ())]).length = m + 1 ∧ R = scanL zs (f - 1) (acc ++ [(y0, y1, ())]) nn ∧ n + 1 ≤ f - 1 + nn ∧ AccOk (acc ++ [(y0, y1, ())])) := FN
      clear hgo hlk hgt FN FNX HFin hm0
      go_wp2_with fail
      rw [← HW0.out]
      refine wp_region_held_drew (S := fun w' => w'.cell? ⟨w2.heap.size, 0, none⟩ = some (.int .i64 y0) ∧ w'.cell? ⟨w2.heap.size, 1, none⟩ = some (.string y1)) (by kernel_rfl) ⟨v0, v1⟩ (fun hHeld => ?_)
      refine wpAnyH_take (i := 0) (v := .int .i64 0) rfl (by kernel_rfl) (by kernel_rfl) (by kernel_rfl) (fun _ _ _ h => h) (Or.inl ⟨by kernel_rfl, ?_⟩) (by assumption) ?_
      · intro w9 hSw; (try dsimp only at hSw); go_simp
      simp only [Act.put, List.getElem_toArray, List.getElem_cons_succ, List.getElem_cons_zero, List.setIfInBounds_toArray, List.set_cons_zero, List.set_cons_succ]
      refine wpAnyH_take (i := 1) (v := .bool false) rfl (by kernel_rfl) (by kernel_rfl) (by kernel_rfl) (fun _ _ _ h => h) (Or.inl ⟨by kernel_rfl, ?_⟩) (by assumption) ?_
      · intro w9 hSw; (try dsimp only at hSw); go_simp
      simp only [Act.put, List.getElem_toArray, List.getElem_cons_succ, List.getElem_cons_zero, List.setIfInBounds_toArray, List.set_cons_zero, List.set_cons_succ]
      refine wpAnyH_take (i := 2) (v := .bool false) rfl (by kernel_rfl) (by kernel_rfl) (by kernel_rfl) (fun _ _ _ h => h) (Or.inl ⟨by kernel_rfl, ?_⟩) (by assumption) ?_
      · intro w9 hSw; (try dsimp only at hSw); go_simp
      simp only [Act.put, List.getElem_toArray, List.getElem_cons_succ, List.getElem_cons_zero, List.setIfInBounds_toArray, List.set_cons_zero, List.set_cons_succ]
      refine wpAnyH_take (i := 3) (v := .slice ua m uc) rfl (by kernel_rfl) (by kernel_rfl) (by kernel_rfl) (fun _ _ _ h => h) (Or.inl ⟨by kernel_rfl, ?_⟩) (by assumption) ?_
      · intro w9 hSw; (try dsimp only at hSw); go_simp
      simp only [Act.put, List.getElem_toArray, List.getElem_cons_succ, List.getElem_cons_zero, List.setIfInBounds_toArray, List.set_cons_zero, List.set_cons_succ]
      refine wpAnyH_take (i := 4) (v := .int .i64 m) rfl (by kernel_rfl) (by kernel_rfl) (by kernel_rfl) (fun _ _ _ h => h) (Or.inl ⟨by kernel_rfl, ?_⟩) (by assumption) ?_
      · intro w9 hSw; (try dsimp only at hSw); go_simp
      simp only [Act.put, List.getElem_toArray, List.getElem_cons_succ, List.getElem_cons_zero, List.setIfInBounds_toArray, List.set_cons_zero, List.set_cons_succ]
      refine wpAnyH_take (i := 5) (v := .bool false) rfl (by kernel_rfl) (by kernel_rfl) (by kernel_rfl) (fun _ _ _ h => h) (Or.inl ⟨by kernel_rfl, ?_⟩) (by assumption) ?_
      · intro w9 hSw; (try dsimp only at hSw); go_simp
      simp only [Act.put, List.getElem_toArray, List.getElem_cons_succ, List.getElem_cons_zero, List.setIfInBounds_toArray, List.set_cons_zero, List.set_cons_succ]
      refine wpAnyH_take (i := 6) (v := .bool false) rfl (by kernel_rfl) (by kernel_rfl) (by kernel_rfl) (fun _ _ _ h => h) (Or.inl ⟨by kernel_rfl, ?_⟩) (by assumption) ?_
      · intro w9 hSw; (try dsimp only at hSw); go_simp
      simp only [Act.put, List.getElem_toArray, List.getElem_cons_succ, List.getElem_cons_zero, List.setIfInBounds_toArray, List.set_cons_zero, List.set_cons_succ]
      refine wpAnyH_take (i := 7) (v := undef) rfl (by kernel_rfl) (by kernel_rfl) (by kernel_rfl) (fun _ _ _ h => h) (Or.inr ⟨by kernel_rfl, rfl⟩) (by assumption) ?_
      simp only [Act.put, List.getElem_toArray, List.getElem_cons_succ, List.getElem_cons_zero, List.setIfInBounds_toArray, List.set_cons_zero, List.set_cons_succ]
      refine wpAnyH_take (i := 8) (v := undef) rfl (by kernel_rfl) (by kernel_rfl) (by kernel_rfl) (fun _ _ _ h => h) (Or.inr ⟨by kernel_rfl, rfl⟩) (by assumption) ?_
      simp only [Act.put, List.getElem_toArray, List.getElem_cons_succ, List.getElem_cons_zero, List.setIfInBounds_toArray, List.set_cons_zero, List.set_cons_succ]
      refine wpAnyH_take (i := 9) (v := undef) rfl (by kernel_rfl) (by kernel_rfl) (by kernel_rfl) (fun _ _ _ h => h) (Or.inr ⟨by kernel_rfl, rfl⟩) (by assumption) ?_
      simp only [Act.put, List.getElem_toArray, List.getElem_cons_succ, List.getElem_cons_zero, List.setIfInBounds_toArray, List.set_cons_zero, List.set_cons_succ]
      refine wpAnyH_take (i := 10) (v := undef) rfl (by kernel_rfl) (by kernel_rfl) (by kernel_rfl) (fun _ _ _ h => h) (Or.inr ⟨by kernel_rfl, rfl⟩) (by assumption) ?_
      simp only [Act.put, List.getElem_toArray, List.getElem_cons_succ, List.getElem_cons_zero, List.setIfInBounds_toArray, List.set_cons_zero, List.set_cons_succ]
      refine wpAnyH_take (i := 11) (v := undef) rfl (by kernel_rfl) (by kernel_rfl) (by kernel_rfl) (fun _ _ _ h => h) (Or.inr ⟨by kernel_rfl, rfl⟩) (by assumption) ?_
      simp only [Act.put, List.getElem_toArray, List.getElem_cons_succ, List.getElem_cons_zero, List.setIfInBounds_toArray, List.set_cons_zero, List.set_cons_succ]
      refine wpAnyH_take (i := 12) (v := undef) rfl (by kernel_rfl) (by kernel_rfl) (by kernel_rfl) (fun _ _ _ h => h) (Or.inr ⟨by kernel_rfl, rfl⟩) (by assumption) ?_
      simp only [Act.put, List.getElem_toArray, List.getElem_cons_succ, List.getElem_cons_zero, List.setIfInBounds_toArray, List.set_cons_zero, List.set_cons_succ]
      refine wpAnyH_take (i := 13) (v := undef) rfl (by kernel_rfl) (by kernel_rfl) (by kernel_rfl) (fun _ _ _ h => h) (Or.inr ⟨by kernel_rfl, rfl⟩) (by assumption) ?_
      simp only [Act.put, List.getElem_toArray, List.getElem_cons_succ, List.getElem_cons_zero, List.setIfInBounds_toArray, List.set_cons_zero, List.set_cons_succ]
      refine wpAnyH_take (i := 14) (v := undef) rfl (by kernel_rfl) (by kernel_rfl) (by kernel_rfl) (fun _ _ _ h => h) (Or.inr ⟨by kernel_rfl, rfl⟩) (by assumption) ?_
      simp only [Act.put, List.getElem_toArray, List.getElem_cons_succ, List.getElem_cons_zero, List.setIfInBounds_toArray, List.set_cons_zero, List.set_cons_succ]
      refine wpAnyH_take (i := 15) (v := undef) rfl (by kernel_rfl) (by kernel_rfl) (by kernel_rfl) (fun _ _ _ h => h) (Or.inr ⟨by kernel_rfl, rfl⟩) (by assumption) ?_
      simp only [Act.put, List.getElem_toArray, List.getElem_cons_succ, List.getElem_cons_zero, List.setIfInBounds_toArray, List.set_cons_zero, List.set_cons_succ]
      refine wpAnyH_take (i := 16) (v := undef) rfl (by kernel_rfl) (by kernel_rfl) (by kernel_rfl) (fun _ _ _ h => h) (Or.inr ⟨by kernel_rfl, rfl⟩) (by assumption) ?_
      simp only [Act.put, List.getElem_toArray, List.getElem_cons_succ, List.getElem_cons_zero, List.setIfInBounds_toArray, List.set_cons_zero, List.set_cons_succ]
      refine wpAnyH_take (i := 17) (v := undef) rfl (by kernel_rfl) (by kernel_rfl) (by kernel_rfl) (fun _ _ _ h => h) (Or.inr ⟨by kernel_rfl, rfl⟩) (by assumption) ?_
      simp only [Act.put, List.getElem_toArray, List.getElem_cons_succ, List.getElem_cons_zero, List.setIfInBounds_toArray, List.set_cons_zero, List.set_cons_succ]
      refine wpAnyH_take (i := 18) (v := .bool false) rfl (by kernel_rfl) (by kernel_rfl) (by kernel_rfl) (fun _ _ _ h => h) (Or.inl ⟨by kernel_rfl, ?_⟩) (by assumption) ?_
      · intro w9 hSw; (try dsimp only at hSw); go_simp
      simp only [Act.put, List.getElem_toArray, List.getElem_cons_succ, List.getElem_cons_zero, List.setIfInBounds_toArray, List.set_cons_zero, List.set_cons_succ]
      refine wpAnyH_take (i := 19) (v := .bool false) rfl (by kernel_rfl) (by kernel_rfl) (by kernel_rfl) (fun _ _ _ h => h) (Or.inl ⟨by kernel_rfl, ?_⟩) (by assumption) ?_
      · intro w9 hSw; (try dsimp only at hSw); go_simp
      simp only [Act.put, List.getElem_toArray, List.getElem_cons_succ, List.getElem_cons_zero, List.setIfInBounds_toArray, List.set_cons_zero, List.set_cons_succ]
      refine wpAnyH_done (by kernel_rfl) ?_ _
      have oW := own_later HO3.out bD0
      have bWW := bW0.trans ((bD0).mono bW0.size)
      obtain ⟨x0, x1⟩ := BX.out W0.drew bD0
      go_wp2_with (at_builtin; refine wpList_append_src rfl _ _ 37 rfl w.heap.size 71 i0 (.agg #[.int .i64 0, .string ByteArray.empty]) 2 24 Tryz.underlying37 hi hz0 hz1 hz2 rfl (by decide) (.slice ua m uc) m (cellsE acc) rfl (oW.alloc _) (.slice (some ⟨W0.drew.heap.size, 0, none⟩) 1 1) 1 [.int .i64 y0, .string y1] rfl rfl (.inr ⟨_, 1, rfl, cells_new W0.drew [.int .i64 y0, .string y1] 71⟩) ?c2 ?c3 ?c4 ?c5 ?_)
      case c2 => intro u hu; simp at hu; rcases hu with rfl | rfl <;> rfl
      case c3 => unfold maxLen; omega
      case c4 => omega
      case c5 => have h9 := bWW.size; (try simp at h9); simp; omega
      intro v3 w3 o3 gr3
      have b3 : Below w.heap.size w w3 := (bWW.alloc bWW.size _).grown gr3 (by have h9 := bWW.size; (try simp at h9); simp; omega) (fun y h => (oW.lt y h).1)
      rw [← HCE.out] at o3
      clear gr3 oW
      go_wp2
      go_roundw
      case rel => exact ⟨f - 1, nn, m + 1, _, _, rfl, rfl, o3, FNh, k6, by omega, b3⟩
      case measure => simp [intOf]; omega
    · obtain ⟨j, hj⟩ : ∃ j, m = j + 1 := ⟨m - 1, by omega⟩
      obtain ⟨g, cq, he, hg1, hg2⟩ := own_form HO3.out (by omega)
      simp only [Value.slice.injEq, and_true] at he
      obtain ⟨rfl, hcq⟩ := he
      obtain ⟨z, hzz, hlk, hmem, hcell⟩ := own_last (j := j) (g := g) (c := uc) (by rw [← hj]; exact HO3.out) (by rw [HA.out.1, hj])
      have hzb := HA.out.2.2.2 z hmem
      obtain ⟨z0, ez0⟩ : ∃ y : Int, y = z.1 := ⟨_, rfl⟩
      rw [← ez0] at hlk hcell hzb
      have p0 : W0.cell? ⟨g, j * 2, none⟩ = some (.int .i64 z0) := by simpa using hcell
      have e1 : decide ((0 : Int) < (m : Int)) = true := by simp; omega
      have e2 : decide (0 < m) = true := by simp; omega
      have e3 : (m : Int) - 1 = (j : Int) := by omega
      have ew : IntKind.i64.wrap (j : Int) = (j : Int) := wrap_i64_in _ (by omega) (by omega)
      have ey : IntKind.i64.wrap (y0 - 1) = y0 - 1 := wrap_i64_in _ (by omega) (by omega)
      have ez : IntKind.i64.wrap z0 = z0 := wrap_i64_in _ (by omega) (by omega)
      have ej1 : (0 : Int) ≤ (j : Int) := by omega
      have ej2 : (j : Int) < (m : Int) := by omega
      have hjm : j < m := by omega
      clear hzz hmem hcell ez0 hj hcq
      by_cases hE : y0 - 1 = z0
      · have hgt : goesOn zs acc p = true := by rw [hgo, hlk]; simp [linkB]; omega
        have FN := FNX.out hgt
        have FNh : Hid ((acc ++ [(y0, y1, ())]).length = m + 1 ∧ R = scanL zs (f - 1) (acc ++ [(y0, y1, ())]) nn ∧ n + 1 ≤ f - 1 + nn ∧ AccOk (acc ++ [(y0, y1, ())])) := FN
        have hq : (y0 - 1 == z0) = true := by simp; omega
        clear hgo hlk hgt FN FNX HFin
        go_wp2_with fail
        rw [← HW0.out]
        refine wp_region_held_drew (S := fun w' => w'.cell? ⟨w2.heap.size, 0, none⟩ = some (.int .i64 y0) ∧ w'.cell? ⟨w2.heap.size, 1, none⟩ = some (.string y1) ∧ w'.cell? ⟨g, j * 2, none⟩ = some (.int .i64 z0)) (by kernel_rfl) ⟨v0, v1, p0⟩ (fun hHeld => ?_)
        refine wpAnyH_take (i := 0) (v := .int .i64 0) rfl (by kernel_rfl) (by kernel_rfl) (by kernel_rfl) (fun _ _ _ h => h) (Or.inl ⟨by kernel_rfl, ?_⟩) (by assumption) ?_
        · intro w9 hSw; (try dsimp only at hSw); go_simp
        simp only [Act.put, List.getElem_toArray, List.getElem_cons_succ, List.getElem_cons_zero, List.setIfInBounds_toArray, List.set_cons_zero, List.set_cons_succ]
        refine wpAnyH_take (i := 1) (v := .bool false) rfl (by kernel_rfl) (by kernel_rfl) (by kernel_rfl) (fun _ _ _ h => h) (Or.inl ⟨by kernel_rfl, ?_⟩) (by assumption) ?_
        · intro w9 hSw; (try dsimp only at hSw); go_simp
        simp only [Act.put, List.getElem_toArray, List.getElem_cons_succ, List.getElem_cons_zero, List.setIfInBounds_toArray, List.set_cons_zero, List.set_cons_succ]
        refine wpAnyH_take (i := 2) (v := .bool false) rfl (by kernel_rfl) (by kernel_rfl) (by kernel_rfl) (fun _ _ _ h => h) (Or.inl ⟨by kernel_rfl, ?_⟩) (by assumption) ?_
        · intro w9 hSw; (try dsimp only at hSw); go_simp
        simp only [Act.put, List.getElem_toArray, List.getElem_cons_succ, List.getElem_cons_zero, List.setIfInBounds_toArray, List.set_cons_zero, List.set_cons_succ]
        refine wpAnyH_take (i := 3) (v := .slice (some ⟨g, 0, none⟩) m uc) rfl (by kernel_rfl) (by kernel_rfl) (by kernel_rfl) (fun _ _ _ h => h) (Or.inl ⟨by kernel_rfl, ?_⟩) (by assumption) ?_
        · intro w9 hSw; (try dsimp only at hSw); go_simp
        simp only [Act.put, List.getElem_toArray, List.getElem_cons_succ, List.getElem_cons_zero, List.setIfInBounds_toArray, List.set_cons_zero, List.set_cons_succ]
        refine wpAnyH_take (i := 4) (v := .int .i64 m) rfl (by kernel_rfl) (by kernel_rfl) (by kernel_rfl) (fun _ _ _ h => h) (Or.inl ⟨by kernel_rfl, ?_⟩) (by assumption) ?_
        · intro w9 hSw; (try dsimp only at hSw); go_simp
        simp only [Act.put, List.getElem_toArray, List.getElem_cons_succ, List.getElem_cons_zero, List.setIfInBounds_toArray, List.set_cons_zero, List.set_cons_succ]
        refine wpAnyH_take (i := 5) (v := .bool true) rfl (by kernel_rfl) (by kernel_rfl) (by kernel_rfl) (fun _ _ _ h => h) (Or.inl ⟨by kernel_rfl, ?_⟩) (by assumption) ?_
        · intro w9 hSw; (try dsimp only at hSw); go_simp
        simp only [Act.put, List.getElem_toArray, List.getElem_cons_succ, List.getElem_cons_zero, List.setIfInBounds_toArray, List.set_cons_zero, List.set_cons_succ]
        refine wpAnyH_take (i := 6) (v := .bool true) rfl (by kernel_rfl) (by kernel_rfl) (by kernel_rfl) (fun _ _ _ h => h) (Or.inl ⟨by kernel_rfl, ?_⟩) (by assumption) ?_
        · intro w9 hSw; (try dsimp only at hSw); go_simp
        simp only [Act.put, List.getElem_toArray, List.getElem_cons_succ, List.getElem_cons_zero, List.setIfInBounds_toArray, List.set_cons_zero, List.set_cons_succ]
        refine wpAnyH_take (i := 7) (v := .pointer (some ⟨w2.heap.size, 0, none⟩)) rfl (by kernel_rfl) (by kernel_rfl) (by kernel_rfl) (fun _ _ _ h => h) (Or.inl ⟨by kernel_rfl, ?_⟩) (by assumption) ?_
        · intro w9 hSw; (try dsimp only at hSw); go_simp
        simp only [Act.put, List.getElem_toArray, List.getElem_cons_succ, List.getElem_cons_zero, List.setIfInBounds_toArray, List.set_cons_zero, List.set_cons_succ]
        refine wpAnyH_take (i := 8) (v := .int .i64 y0) rfl (by kernel_rfl) (by kernel_rfl) (by kernel_rfl) (fun _ _ _ h => h) (Or.inl ⟨by kernel_rfl, ?_⟩) (by assumption) ?_
        · intro w9 hSw; (try dsimp only at hSw); go_simp
        simp only [Act.put, List.getElem_toArray, List.getElem_cons_succ, List.getElem_cons_zero, List.setIfInBounds_toArray, List.set_cons_zero, List.set_cons_succ]
        refine wpAnyH_take (i := 9) (v := .int .i64 (y0 - 1)) rfl (by kernel_rfl) (by kernel_rfl) (by kernel_rfl) (fun _ _ _ h => h) (Or.inl ⟨by kernel_rfl, ?_⟩) (by assumption) ?_
        · intro w9 hSw; (try dsimp only at hSw); go_simp
        simp only [Act.put, List.getElem_toArray, List.getElem_cons_succ, List.getElem_cons_zero, List.setIfInBounds_toArray, List.set_cons_zero, List.set_cons_succ]
        refine wpAnyH_take (i := 10) (v := .slice (some ⟨g, 0, none⟩) m uc) rfl (by kernel_rfl) (by kernel_rfl) (by kernel_rfl) (fun _ _ _ h => h) (Or.inl ⟨by kernel_rfl, ?_⟩) (by assumption) ?_
        · intro w9 hSw; (try dsimp only at hSw); go_simp
        simp only [Act.put, List.getElem_toArray, List.getElem_cons_succ, List.getElem_cons_zero, List.setIfInBounds_toArray, List.set_cons_zero, List.set_cons_succ]
        refine wpAnyH_take (i := 11) (v := .slice (some ⟨g, 0, none⟩) m uc) rfl (by kernel_rfl) (by kernel_rfl) (by kernel_rfl) (fun _ _ _ h => h) (Or.inl ⟨by kernel_rfl, ?_⟩) (by assumption) ?_
        · intro w9 hSw; (try dsimp only at hSw); go_simp
        simp only [Act.put, List.getElem_toArray, List.getElem_cons_succ, List.getElem_cons_zero, List.setIfInBounds_toArray, List.set_cons_zero, List.set_cons_succ]
        refine wpAnyH_take (i := 12) (v := .int .i64 m) rfl (by kernel_rfl) (by kernel_rfl) (by kernel_rfl) (fun _ _ _ h => h) (Or.inl ⟨by kernel_rfl, ?_⟩) (by assumption) ?_
        · intro w9 hSw; (try dsimp only at hSw); go_simp
        simp only [Act.put, List.getElem_toArray, List.getElem_cons_succ, List.getElem_cons_zero, List.setIfInBounds_toArray, List.set_cons_zero, List.set_cons_succ]
        refine wpAnyH_take (i := 13) (v := .int .i64 j) rfl (by kernel_rfl) (by kernel_rfl) (by kernel_rfl) (fun _ _ _ h => h) (Or.inl ⟨by kernel_rfl, ?_⟩) (by assumption) ?_
        · intro w9 hSw; (try dsimp only at hSw); go_simp
        simp only [Act.put, List.getElem_toArray, List.getElem_cons_succ, List.getElem_cons_zero, List.setIfInBounds_toArray, List.set_cons_zero, List.set_cons_succ]
        refine wpAnyH_take (i := 14) (v := .pointer (some ⟨g, j * 2, none⟩)) rfl (by kernel_rfl) (by kernel_rfl) (by kernel_rfl) (fun _ _ _ h => h) (Or.inl ⟨by kernel_rfl, ?_⟩) (by assumption) ?_
        · intro w9 hSw; (try dsimp only at hSw); go_simp
        simp only [Act.put, List.getElem_toArray, List.getElem_cons_succ, List.getElem_cons_zero, List.setIfInBounds_toArray, List.set_cons_zero, List.set_cons_succ]
        refine wpAnyH_take (i := 15) (v := .pointer (some ⟨g, j * 2, none⟩)) rfl (by kernel_rfl) (by kernel_rfl) (by kernel_rfl) (fun _ _ _ h => h) (Or.inl ⟨by kernel_rfl, ?_⟩) (by assumption) ?_
        · intro w9 hSw; (try dsimp only at hSw); go_simp
        simp only [Act.put, List.getElem_toArray, List.getElem_cons_succ, List.getElem_cons_zero, List.setIfInBounds_toArray, List.set_cons_zero, List.set_cons_succ]
        refine wpAnyH_take (i := 16) (v := .int .i64 z0) rfl (by kernel_rfl) (by kernel_rfl) (by kernel_rfl) (fun _ _ _ h => h) (Or.inl ⟨by kernel_rfl, ?_⟩) (by assumption) ?_
        · intro w9 hSw; (try dsimp only at hSw); go_simp
        simp only [Act.put, List.getElem_toArray, List.getElem_cons_succ, List.getElem_cons_zero, List.setIfInBounds_toArray, List.set_cons_zero, List.set_cons_succ]
        refine wpAnyH_take (i := 17) (v := .bool false) rfl (by kernel_rfl) (by kernel_rfl) (by kernel_rfl) (fun _ _ _ h => h) (Or.inl ⟨by kernel_rfl, ?_⟩) (by assumption) ?_
        · intro w9 hSw; (try dsimp only at hSw); go_simp
        simp only [Act.put, List.getElem_toArray, List.getElem_cons_succ, List.getElem_cons_zero, List.setIfInBounds_toArray, List.set_cons_zero, List.set_cons_succ]
        refine wpAnyH_take (i := 18) (v := .bool false) rfl (by kernel_rfl) (by kernel_rfl) (by kernel_rfl) (fun _ _ _ h => h) (Or.inl ⟨by kernel_rfl, ?_⟩) (by assumption) ?_
        · intro w9 hSw; (try dsimp only at hSw); go_simp
        simp only [Act.put, List.getElem_toArray, List.getElem_cons_succ, List.getElem_cons_zero, List.setIfInBounds_toArray, List.set_cons_zero, List.set_cons_succ]
        refine wpAnyH_take (i := 19) (v := .bool false) rfl (by kernel_rfl) (by kernel_rfl) (by kernel_rfl) (fun _ _ _ h => h) (Or.inl ⟨by kernel_rfl, ?_⟩) (by assumption) ?_
        · intro w9 hSw; (try dsimp only at hSw); go_simp
        simp only [Act.put, List.getElem_toArray, List.getElem_cons_succ, List.getElem_cons_zero, List.setIfInBounds_toArray, List.set_cons_zero, List.set_cons_succ]
        refine wpAnyH_done (by kernel_rfl) ?_ _
        have oW := own_later HO3.out bD0
        have bWW := bW0.trans ((bD0).mono bW0.size)
        obtain ⟨x0, x1⟩ := BX.out W0.drew bD0
        go_wp2_with (at_builtin; refine wpList_append_src rfl _ _ 37 rfl w.heap.size 71 i0 (.agg #[.int .i64 0, .string ByteArray.empty]) 2 24 Tryz.underlying37 hi hz0 hz1 hz2 rfl (by decide) (.slice (some ⟨g, 0, none⟩) m uc) m (cellsE acc) rfl (oW.alloc _) (.slice (some ⟨W0.drew.heap.size, 0, none⟩) 1 1) 1 [.int .i64 y0, .string y1] rfl rfl (.inr ⟨_, 1, rfl, cells_new W0.drew [.int .i64 y0, .string y1] 71⟩) ?c2 ?c3 ?c4 ?c5 ?_)
        case c2 => intro u hu; simp at hu; rcases hu with rfl | rfl <;> rfl
        case c3 => unfold maxLen; omega
        case c4 => omega
        case c5 => have h9 := bWW.size; (try simp at h9); simp; omega
        intro v3 w3 o3 gr3
        have b3 : Below w.heap.size w w3 := (bWW.alloc bWW.size _).grown gr3 (by have h9 := bWW.size; (try simp at h9); simp; omega) (fun y h => (oW.lt y h).1)
        rw [← HCE.out] at o3
        clear gr3 oW
        go_wp2
        go_roundw
        case rel => exact ⟨f - 1, nn, m + 1, _, _, rfl, rfl, o3, FNh, k6, by omega, b3⟩
        case measure => simp [intOf]; omega
      · have hgf : goesOn zs acc p = false := by rw [hgo, hlk]; simp [linkB]; omega
        have FN := HFin.out hgf
        have hq : (y0 - 1 == z0) = false := by simp; omega
        clear hgo hlk hgf FNX HFin
        go_wp2_with fail
        rw [← HW0.out]
        refine wp_region_held_drew (S := fun w' => w'.cell? ⟨w2.heap.size, 0, none⟩ = some (.int .i64 y0) ∧ w'.cell? ⟨w2.heap.size, 1, none⟩ = some (.string y1) ∧ w'.cell? ⟨g, j * 2, none⟩ = some (.int .i64 z0)) (by kernel_rfl) ⟨v0, v1, p0⟩ (fun hHeld => ?_)
        refine wpAnyH_take (i := 0) (v := .int .i64 0) rfl (by kernel_rfl) (by kernel_rfl) (by kernel_rfl) (fun _ _ _ h => h) (Or.inl ⟨by kernel_rfl, ?_⟩) (by assumption) ?_
        · intro w9 hSw; (try dsimp only at hSw); go_simp
        simp only [Act.put, List.getElem_toArray, List.getElem_cons_succ, List.getElem_cons_zero, List.setIfInBounds_toArray, List.set_cons_zero, List.set_cons_succ]
        refine wpAnyH_take (i := 1) (v := .bool false) rfl (by kernel_rfl) (by kernel_rfl) (by kernel_rfl) (fun _ _ _ h => h) (Or.inl ⟨by kernel_rfl, ?_⟩) (by assumption) ?_
        · intro w9 hSw; (try dsimp only at hSw); go_simp
        simp only [Act.put, List.getElem_toArray, List.getElem_cons_succ, List.getElem_cons_zero, List.setIfInBounds_toArray, List.set_cons_zero, List.set_cons_succ]
        refine wpAnyH_take (i := 2) (v := .bool false) rfl (by kernel_rfl) (by kernel_rfl) (by kernel_rfl) (fun _ _ _ h => h) (Or.inl ⟨by kernel_rfl, ?_⟩) (by assumption) ?_
        · intro w9 hSw; (try dsimp only at hSw); go_simp
        simp only [Act.put, List.getElem_toArray, List.getElem_cons_succ, List.getElem_cons_zero, List.setIfInBounds_toArray, List.set_cons_zero, List.set_cons_succ]
        refine wpAnyH_take (i := 3) (v := .slice (some ⟨g, 0, none⟩) m uc) rfl (by kernel_rfl) (by kernel_rfl) (by kernel_rfl) (fun _ _ _ h => h) (Or.inl ⟨by kernel_rfl, ?_⟩) (by assumption) ?_
        · intro w9 hSw; (try dsimp only at hSw); go_simp
        simp only [Act.put, List.getElem_toArray, List.getElem_cons_succ, List.getElem_cons_zero, List.setIfInBounds_toArray, List.set_cons_zero, List.set_cons_succ]
        refine wpAnyH_take (i := 4) (v := .int .i64 m) rfl (by kernel_rfl) (by kernel_rfl) (by kernel_rfl) (fun _ _ _ h => h) (Or.inl ⟨by kernel_rfl, ?_⟩) (by assumption) ?_
        · intro w9 hSw; (try dsimp only at hSw); go_simp
        simp only [Act.put, List.getElem_toArray, List.getElem_cons_succ, List.getElem_cons_zero, List.setIfInBounds_toArray, List.set_cons_zero, List.set_cons_succ]
        refine wpAnyH_take (i := 5) (v := .bool true) rfl (by kernel_rfl) (by kernel_rfl) (by kernel_rfl) (fun _ _ _ h => h) (Or.inl ⟨by kernel_rfl, ?_⟩) (by assumption) ?_
        · intro w9 hSw; (try dsimp only at hSw); go_simp
        simp only [Act.put, List.getElem_toArray, List.getElem_cons_succ, List.getElem_cons_zero, List.setIfInBounds_toArray, List.set_cons_zero, List.set_cons_succ]
        refine wpAnyH_take (i := 6) (v := .bool true) rfl (by kernel_rfl) (by kernel_rfl) (by kernel_rfl) (fun _ _ _ h => h) (Or.inl ⟨by kernel_rfl, ?_⟩) (by assumption) ?_
        · intro w9 hSw; (try dsimp only at hSw); go_simp
        simp only [Act.put, List.getElem_toArray, List.getElem_cons_succ, List.getElem_cons_zero, List.setIfInBounds_toArray, List.set_cons_zero, List.set_cons_succ]
        refine wpAnyH_take (i := 7) (v := .pointer (some ⟨w2.heap.size, 0, none⟩)) rfl (by kernel_rfl) (by kernel_rfl) (by kernel_rfl) (fun _ _ _ h => h) (Or.inl ⟨by kernel_rfl, ?_⟩) (by assumption) ?_
        · intro w9 hSw; (try dsimp only at hSw); go_simp
        simp only [Act.put, List.getElem_toArray, List.getElem_cons_succ, List.getElem_cons_zero, List.setIfInBounds_toArray, List.set_cons_zero, List.set_cons_succ]
        refine wpAnyH_take (i := 8) (v := .int .i64 y0) rfl (by kernel_rfl) (by kernel_rfl) (by kernel_rfl) (fun _ _ _ h => h) (Or.inl ⟨by kernel_rfl, ?_⟩) (by assumption) ?_
        · intro w9 hSw; (try dsimp only at hSw); go_simp
        simp only [Act.put, List.getElem_toArray, List.getElem_cons_succ, List.getElem_cons_zero, List.setIfInBounds_toArray, List.set_cons_zero, List.set_cons_succ]
        refine wpAnyH_take (i := 9) (v := .int .i64 (y0 - 1)) rfl (by kernel_rfl) (by kernel_rfl) (by kernel_rfl) (fun _ _ _ h => h) (Or.inl ⟨by kernel_rfl, ?_⟩) (by assumption) ?_
        · intro w9 hSw; (try dsimp only at hSw); go_simp
        simp only [Act.put, List.getElem_toArray, List.getElem_cons_succ, List.getElem_cons_zero, List.setIfInBounds_toArray, List.set_cons_zero, List.set_cons_succ]
        refine wpAnyH_take (i := 10) (v := .slice (some ⟨g, 0, none⟩) m uc) rfl (by kernel_rfl) (by kernel_rfl) (by kernel_rfl) (fun _ _ _ h => h) (Or.inl ⟨by kernel_rfl, ?_⟩) (by assumption) ?_
        · intro w9 hSw; (try dsimp only at hSw); go_simp
        simp only [Act.put, List.getElem_toArray, List.getElem_cons_succ, List.getElem_cons_zero, List.setIfInBounds_toArray, List.set_cons_zero, List.set_cons_succ]
        refine wpAnyH_take (i := 11) (v := .slice (some ⟨g, 0, none⟩) m uc) rfl (by kernel_rfl) (by kernel_rfl) (by kernel_rfl) (fun _ _ _ h => h) (Or.inl ⟨by kernel_rfl, ?_⟩) (by assumption) ?_
        · intro w9 hSw; (try dsimp only at hSw); go_simp
        simp only [Act.put, List.getElem_toArray, List.getElem_cons_succ, List.getElem_cons_zero, List.setIfInBounds_toArray, List.set_cons_zero, List.set_cons_succ]
        refine wpAnyH_take (i := 12) (v := .int .i64 m) rfl (by kernel_rfl) (by kernel_rfl) (by kernel_rfl) (fun _ _ _ h => h) (Or.inl ⟨by kernel_rfl, ?_⟩) (by assumption) ?_
        · intro w9 hSw; (try dsimp only at hSw); go_simp
        simp only [Act.put, List.getElem_toArray, List.getElem_cons_succ, List.getElem_cons_zero, List.setIfInBounds_toArray, List.set_cons_zero, List.set_cons_succ]
        refine wpAnyH_take (i := 13) (v := .int .i64 j) rfl (by kernel_rfl) (by kernel_rfl) (by kernel_rfl) (fun _ _ _ h => h) (Or.inl ⟨by kernel_rfl, ?_⟩) (by assumption) ?_
        · intro w9 hSw; (try dsimp only at hSw); go_simp
        simp only [Act.put, List.getElem_toArray, List.getElem_cons_succ, List.getElem_cons_zero, List.setIfInBounds_toArray, List.set_cons_zero, List.set_cons_succ]
        refine wpAnyH_take (i := 14) (v := .pointer (some ⟨g, j * 2, none⟩)) rfl (by kernel_rfl) (by kernel_rfl) (by kernel_rfl) (fun _ _ _ h => h) (Or.inl ⟨by kernel_rfl, ?_⟩) (by assumption) ?_
        · intro w9 hSw; (try dsimp only at hSw); go_simp
        simp only [Act.put, List.getElem_toArray, List.getElem_cons_succ, List.getElem_cons_zero, List.setIfInBounds_toArray, List.set_cons_zero, List.set_cons_succ]
        refine wpAnyH_take (i := 15) (v := .pointer (some ⟨g, j * 2, none⟩)) rfl (by kernel_rfl) (by kernel_rfl) (by kernel_rfl) (fun _ _ _ h => h) (Or.inl ⟨by kernel_rfl, ?_⟩) (by assumption) ?_
        · intro w9 hSw; (try dsimp only at hSw); go_simp
        simp only [Act.put, List.getElem_toArray, List.getElem_cons_succ, List.getElem_cons_zero, List.setIfInBounds_toArray, List.set_cons_zero, List.set_cons_succ]
        refine wpAnyH_take (i := 16) (v := .int .i64 z0) rfl (by kernel_rfl) (by kernel_rfl) (by kernel_rfl) (fun _ _ _ h => h) (Or.inl ⟨by kernel_rfl, ?_⟩) (by assumption) ?_
        · intro w9 hSw; (try dsimp only at hSw); go_simp
        simp only [Act.put, List.getElem_toArray, List.getElem_cons_succ, List.getElem_cons_zero, List.setIfInBounds_toArray, List.set_cons_zero, List.set_cons_succ]
        refine wpAnyH_take (i := 17) (v := .bool true) rfl (by kernel_rfl) (by kernel_rfl) (by kernel_rfl) (fun _ _ _ h => h) (Or.inl ⟨by kernel_rfl, ?_⟩) (by assumption) ?_
        · intro w9 hSw; (try dsimp only at hSw); go_simp
        simp only [Act.put, List.getElem_toArray, List.getElem_cons_succ, List.getElem_cons_zero, List.setIfInBounds_toArray, List.set_cons_zero, List.set_cons_succ]
        refine wpAnyH_take (i := 18) (v := .bool true) rfl (by kernel_rfl) (by kernel_rfl) (by kernel_rfl) (fun _ _ _ h => h) (Or.inl ⟨by kernel_rfl, ?_⟩) (by assumption) ?_
        · intro w9 hSw; (try dsimp only at hSw); go_simp
        simp only [Act.put, List.getElem_toArray, List.getElem_cons_succ, List.getElem_cons_zero, List.setIfInBounds_toArray, List.set_cons_zero, List.set_cons_succ]
        refine wpAnyH_take (i := 19) (v := .bool true) rfl (by kernel_rfl) (by kernel_rfl) (by kernel_rfl) (fun _ _ _ h => h) (Or.inl ⟨by kernel_rfl, ?_⟩) (by assumption) ?_
        · intro w9 hSw; (try dsimp only at hSw); go_simp
        simp only [Act.put, List.getElem_toArray, List.getElem_cons_succ, List.getElem_cons_zero, List.setIfInBounds_toArray, List.set_cons_zero, List.set_cons_succ]
        refine wpAnyH_done (by kernel_rfl) ?_ _
        go_wp2
        go_ret2
        exact ⟨_, by rw [← (FN W0.drew (own_later HO3.out bD0)).1]; rfl, (FN W0.drew (own_later HO3.out bD0)).2.1, (FN W0.drew (own_later HO3.out bD0)).2.2, bW0.drew⟩

end Go.Proofs.YtkfmpfbhhmmllaaGreat

/- EnsI: follows and EntriesOk of the program. By program (entgen.py). -/
namespace Go.Proofs.YtkfmpfbhhmmllaaGreat
open Go.RowKit
set_option linter.unusedVariables false
set_option maxRecDepth 100000
set_option linter.unusedSimpArgs false

/-- follows of no entries. -/
theorem follows_none (a : Option Addr) (c : Nat) (x : Int) (s : ByteArray) (w : World) :
    Calls Tryz.prog 66 #[.slice a 0 c, .agg #[.int .i64 x, .string s]] w fun e w' => e = .returned (.bool true) ∧ Below w.heap.size w w' := by
  have bA : Below w.heap.size w (w.alloc (.cells #[.int .i64 x, .string s] 71)) := (Below.refl _ _).alloc (Nat.le_refl _) _
  go_enter Tryz.func66, Tryz.ntmps66
  go_wp2_with fail
  obtain ⟨W0, hW0⟩ : ∃ W0, W0 = w.alloc (.cells #[.int .i64 x, .string s] 71) := ⟨_, rfl⟩
  rw [← hW0]
  rw [← hW0] at bA
  clear hW0
  refine wp_region_held_drew (S := fun w' => True) (by kernel_rfl) trivial (fun hHeld => ?_)
  refine wpAnyH_take (i := 0) (v := .slice a 0 c) rfl (by kernel_rfl) (by kernel_rfl) (by kernel_rfl) (fun _ _ _ h => h) (Or.inl ⟨by kernel_rfl, ?_⟩) (by assumption) ?_
  · intro w9 hSw; (try dsimp only at hSw); go_simp
  simp only [Act.put, List.getElem_toArray, List.getElem_cons_succ, List.getElem_cons_zero, List.setIfInBounds_toArray, List.set_cons_zero, List.set_cons_succ]
  refine wpAnyH_take (i := 1) (v := .int .i64 0) rfl (by kernel_rfl) (by kernel_rfl) (by kernel_rfl) (fun _ _ _ h => h) (Or.inl ⟨by kernel_rfl, ?_⟩) (by assumption) ?_
  · intro w9 hSw; (try dsimp only at hSw); go_simp
  simp only [Act.put, List.getElem_toArray, List.getElem_cons_succ, List.getElem_cons_zero, List.setIfInBounds_toArray, List.set_cons_zero, List.set_cons_succ]
  refine wpAnyH_take (i := 2) (v := .bool true) rfl (by kernel_rfl) (by kernel_rfl) (by kernel_rfl) (fun _ _ _ h => h) (Or.inl ⟨by kernel_rfl, ?_⟩) (by assumption) ?_
  · intro w9 hSw; (try dsimp only at hSw); go_simp
  simp only [Act.put, List.getElem_toArray, List.getElem_cons_succ, List.getElem_cons_zero, List.setIfInBounds_toArray, List.set_cons_zero, List.set_cons_succ]
  refine wpAnyH_take (i := 3) (v := .bool true) rfl (by kernel_rfl) (by kernel_rfl) (by kernel_rfl) (fun _ _ _ h => h) (Or.inl ⟨by kernel_rfl, ?_⟩) (by assumption) ?_
  · intro w9 hSw; (try dsimp only at hSw); go_simp
  simp only [Act.put, List.getElem_toArray, List.getElem_cons_succ, List.getElem_cons_zero, List.setIfInBounds_toArray, List.set_cons_zero, List.set_cons_succ]
  refine wpAnyH_take (i := 4) (v := undef) rfl (by kernel_rfl) (by kernel_rfl) (by kernel_rfl) (fun _ _ _ h => h) (Or.inr ⟨by kernel_rfl, rfl⟩) (by assumption) ?_
  simp only [Act.put, List.getElem_toArray, List.getElem_cons_succ, List.getElem_cons_zero, List.setIfInBounds_toArray, List.set_cons_zero, List.set_cons_succ]
  refine wpAnyH_take (i := 5) (v := undef) rfl (by kernel_rfl) (by kernel_rfl) (by kernel_rfl) (fun _ _ _ h => h) (Or.inr ⟨by kernel_rfl, rfl⟩) (by assumption) ?_
  simp only [Act.put, List.getElem_toArray, List.getElem_cons_succ, List.getElem_cons_zero, List.setIfInBounds_toArray, List.set_cons_zero, List.set_cons_succ]
  refine wpAnyH_take (i := 6) (v := undef) rfl (by kernel_rfl) (by kernel_rfl) (by kernel_rfl) (fun _ _ _ h => h) (Or.inr ⟨by kernel_rfl, rfl⟩) (by assumption) ?_
  simp only [Act.put, List.getElem_toArray, List.getElem_cons_succ, List.getElem_cons_zero, List.setIfInBounds_toArray, List.set_cons_zero, List.set_cons_succ]
  refine wpAnyH_take (i := 7) (v := undef) rfl (by kernel_rfl) (by kernel_rfl) (by kernel_rfl) (fun _ _ _ h => h) (Or.inr ⟨by kernel_rfl, rfl⟩) (by assumption) ?_
  simp only [Act.put, List.getElem_toArray, List.getElem_cons_succ, List.getElem_cons_zero, List.setIfInBounds_toArray, List.set_cons_zero, List.set_cons_succ]
  refine wpAnyH_take (i := 8) (v := undef) rfl (by kernel_rfl) (by kernel_rfl) (by kernel_rfl) (fun _ _ _ h => h) (Or.inr ⟨by kernel_rfl, rfl⟩) (by assumption) ?_
  simp only [Act.put, List.getElem_toArray, List.getElem_cons_succ, List.getElem_cons_zero, List.setIfInBounds_toArray, List.set_cons_zero, List.set_cons_succ]
  refine wpAnyH_take (i := 9) (v := undef) rfl (by kernel_rfl) (by kernel_rfl) (by kernel_rfl) (fun _ _ _ h => h) (Or.inr ⟨by kernel_rfl, rfl⟩) (by assumption) ?_
  simp only [Act.put, List.getElem_toArray, List.getElem_cons_succ, List.getElem_cons_zero, List.setIfInBounds_toArray, List.set_cons_zero, List.set_cons_succ]
  refine wpAnyH_take (i := 10) (v := undef) rfl (by kernel_rfl) (by kernel_rfl) (by kernel_rfl) (fun _ _ _ h => h) (Or.inr ⟨by kernel_rfl, rfl⟩) (by assumption) ?_
  simp only [Act.put, List.getElem_toArray, List.getElem_cons_succ, List.getElem_cons_zero, List.setIfInBounds_toArray, List.set_cons_zero, List.set_cons_succ]
  refine wpAnyH_take (i := 11) (v := undef) rfl (by kernel_rfl) (by kernel_rfl) (by kernel_rfl) (fun _ _ _ h => h) (Or.inr ⟨by kernel_rfl, rfl⟩) (by assumption) ?_
  simp only [Act.put, List.getElem_toArray, List.getElem_cons_succ, List.getElem_cons_zero, List.setIfInBounds_toArray, List.set_cons_zero, List.set_cons_succ]
  refine wpAnyH_take (i := 12) (v := undef) rfl (by kernel_rfl) (by kernel_rfl) (by kernel_rfl) (fun _ _ _ h => h) (Or.inr ⟨by kernel_rfl, rfl⟩) (by assumption) ?_
  simp only [Act.put, List.getElem_toArray, List.getElem_cons_succ, List.getElem_cons_zero, List.setIfInBounds_toArray, List.set_cons_zero, List.set_cons_succ]
  refine wpAnyH_take (i := 13) (v := undef) rfl (by kernel_rfl) (by kernel_rfl) (by kernel_rfl) (fun _ _ _ h => h) (Or.inr ⟨by kernel_rfl, rfl⟩) (by assumption) ?_
  simp only [Act.put, List.getElem_toArray, List.getElem_cons_succ, List.getElem_cons_zero, List.setIfInBounds_toArray, List.set_cons_zero, List.set_cons_succ]
  refine wpAnyH_take (i := 14) (v := undef) rfl (by kernel_rfl) (by kernel_rfl) (by kernel_rfl) (fun _ _ _ h => h) (Or.inr ⟨by kernel_rfl, rfl⟩) (by assumption) ?_
  simp only [Act.put, List.getElem_toArray, List.getElem_cons_succ, List.getElem_cons_zero, List.setIfInBounds_toArray, List.set_cons_zero, List.set_cons_succ]
  refine wpAnyH_take (i := 15) (v := .bool true) rfl (by kernel_rfl) (by kernel_rfl) (by kernel_rfl) (fun _ _ _ h => h) (Or.inl ⟨by kernel_rfl, ?_⟩) (by assumption) ?_
  · intro w9 hSw; (try dsimp only at hSw); go_simp
  simp only [Act.put, List.getElem_toArray, List.getElem_cons_succ, List.getElem_cons_zero, List.setIfInBounds_toArray, List.set_cons_zero, List.set_cons_succ]
  refine wpAnyH_take (i := 16) (v := .bool true) rfl (by kernel_rfl) (by kernel_rfl) (by kernel_rfl) (fun _ _ _ h => h) (Or.inl ⟨by kernel_rfl, ?_⟩) (by assumption) ?_
  · intro w9 hSw; (try dsimp only at hSw); go_simp
  simp only [Act.put, List.getElem_toArray, List.getElem_cons_succ, List.getElem_cons_zero, List.setIfInBounds_toArray, List.set_cons_zero, List.set_cons_succ]
  refine wpAnyH_done (by kernel_rfl) ?_ _
  have bE := bA.drew
  go_wp2
  go_ret
  exact ⟨rfl, bE⟩

set_option maxRecDepth 100000 in
set_option maxHeartbeats 2000000 in
/-- follows of some entries, the last of number z0. -/
theorem follows_some (b off j c : Nat) (z0 x : Int) (s : ByteArray) (w : World) (hb : b < w.heap.size) (p0 : w.cell? ⟨b, off + j * 2, none⟩ = some (.int .i64 z0)) (hj : j < 9223372036854775807)
    (h1 : 1 ≤ z0) (h2 : z0 ≤ 1000000000) :
    Calls Tryz.prog 66 #[.slice (some ⟨b, off, none⟩) (j + 1) c, .agg #[.int .i64 x, .string s]] w fun e w' => e = .returned (.bool (x == z0 + 1)) ∧ Below w.heap.size w w' := by
  obtain ⟨W0, hW0⟩ : ∃ W0, W0 = w.alloc (.cells #[.int .i64 x, .string s] 71) := ⟨_, rfl⟩
  have bA : Below w.heap.size w W0 := by rw [hW0]; exact (Below.refl _ _).alloc (Nat.le_refl _) _
  have hbox : W0.heap[w.heap.size]? = some (.cells #[.int .i64 x, .string s] 71 (0, 0)) := by rw [hW0]; exact heap_alloc_new w _
  have zlt0 : w.heap.size < W0.heap.size := by rw [hW0]; simp
  have v0 : W0.cell? ⟨w.heap.size, 0, none⟩ = some (.int .i64 x) := box_cell hbox rfl
  have q0 : W0.cell? ⟨b, off + j * 2, none⟩ = some (.int .i64 z0) := (bA.cell (p := ⟨b, off + j * 2, none⟩) hb).trans p0
  have HW0 : Hid (W0 = w.alloc (.cells #[.int .i64 x, .string s] 71)) := hW0
  have hbW : b < W0.heap.size := Nat.lt_trans hb zlt0
  obtain ⟨n, hn⟩ : ∃ n, n = j + 1 := ⟨_, rfl⟩
  have hkj : (n : Int) - 1 = (j : Int) := by omega
  have hkw : IntKind.i64.wrap (j : Int) = (j : Int) := wrap_i64_in _ (by omega) (by omega)
  have hzw : IntKind.i64.wrap (z0 + 1) = z0 + 1 := wrap_i64_in _ (by omega) (by omega)
  have hn0 : ((n : Int) == 0) = false := by simp; omega
  have hn1 : (n == 0) = false := by simp; omega
  have hj1 : (0 : Int) ≤ (j : Int) := by omega
  have hj2 : (j : Int) < (n : Int) := by omega
  rw [← hn]
  clear hn hW0 hbox p0
  go_enter Tryz.func66, Tryz.ntmps66
  go_wp2_with fail
  rw [← HW0.out]
  refine wp_region_held_drew (S := fun w' => w'.cell? ⟨w.heap.size, 0, none⟩ = some (.int .i64 x) ∧ w'.cell? ⟨b, off + j * 2, none⟩ = some (.int .i64 z0)) (by kernel_rfl) ⟨v0, q0⟩ (fun hHeld => ?_)
  refine wpAnyH_take (i := 0) (v := .slice (some ⟨b, off, none⟩) n c) rfl (by kernel_rfl) (by kernel_rfl) (by kernel_rfl) (fun _ _ _ h => h) (Or.inl ⟨by kernel_rfl, ?_⟩) (by assumption) ?_
  · intro w9 hSw; (try dsimp only at hSw); go_simp
  simp only [Act.put, List.getElem_toArray, List.getElem_cons_succ, List.getElem_cons_zero, List.setIfInBounds_toArray, List.set_cons_zero, List.set_cons_succ]
  refine wpAnyH_take (i := 1) (v := .int .i64 n) rfl (by kernel_rfl) (by kernel_rfl) (by kernel_rfl) (fun _ _ _ h => h) (Or.inl ⟨by kernel_rfl, ?_⟩) (by assumption) ?_
  · intro w9 hSw; (try dsimp only at hSw); go_simp
  simp only [Act.put, List.getElem_toArray, List.getElem_cons_succ, List.getElem_cons_zero, List.setIfInBounds_toArray, List.set_cons_zero, List.set_cons_succ]
  refine wpAnyH_take (i := 2) (v := .bool false) rfl (by kernel_rfl) (by kernel_rfl) (by kernel_rfl) (fun _ _ _ h => h) (Or.inl ⟨by kernel_rfl, ?_⟩) (by assumption) ?_
  · intro w9 hSw; (try dsimp only at hSw); go_simp
  simp only [Act.put, List.getElem_toArray, List.getElem_cons_succ, List.getElem_cons_zero, List.setIfInBounds_toArray, List.set_cons_zero, List.set_cons_succ]
  refine wpAnyH_take (i := 3) (v := .bool false) rfl (by kernel_rfl) (by kernel_rfl) (by kernel_rfl) (fun _ _ _ h => h) (Or.inl ⟨by kernel_rfl, ?_⟩) (by assumption) ?_
  · intro w9 hSw; (try dsimp only at hSw); go_simp
  simp only [Act.put, List.getElem_toArray, List.getElem_cons_succ, List.getElem_cons_zero, List.setIfInBounds_toArray, List.set_cons_zero, List.set_cons_succ]
  refine wpAnyH_take (i := 4) (v := .pointer (some ⟨w.heap.size, 0, none⟩)) rfl (by kernel_rfl) (by kernel_rfl) (by kernel_rfl) (fun _ _ _ h => h) (Or.inl ⟨by kernel_rfl, ?_⟩) (by assumption) ?_
  · intro w9 hSw; (try dsimp only at hSw); go_simp
  simp only [Act.put, List.getElem_toArray, List.getElem_cons_succ, List.getElem_cons_zero, List.setIfInBounds_toArray, List.set_cons_zero, List.set_cons_succ]
  refine wpAnyH_take (i := 5) (v := .int .i64 x) rfl (by kernel_rfl) (by kernel_rfl) (by kernel_rfl) (fun _ _ _ h => h) (Or.inl ⟨by kernel_rfl, ?_⟩) (by assumption) ?_
  · intro w9 hSw; (try dsimp only at hSw); go_simp
  simp only [Act.put, List.getElem_toArray, List.getElem_cons_succ, List.getElem_cons_zero, List.setIfInBounds_toArray, List.set_cons_zero, List.set_cons_succ]
  refine wpAnyH_take (i := 6) (v := .slice (some ⟨b, off, none⟩) n c) rfl (by kernel_rfl) (by kernel_rfl) (by kernel_rfl) (fun _ _ _ h => h) (Or.inl ⟨by kernel_rfl, ?_⟩) (by assumption) ?_
  · intro w9 hSw; (try dsimp only at hSw); go_simp
  simp only [Act.put, List.getElem_toArray, List.getElem_cons_succ, List.getElem_cons_zero, List.setIfInBounds_toArray, List.set_cons_zero, List.set_cons_succ]
  refine wpAnyH_take (i := 7) (v := .slice (some ⟨b, off, none⟩) n c) rfl (by kernel_rfl) (by kernel_rfl) (by kernel_rfl) (fun _ _ _ h => h) (Or.inl ⟨by kernel_rfl, ?_⟩) (by assumption) ?_
  · intro w9 hSw; (try dsimp only at hSw); go_simp
  simp only [Act.put, List.getElem_toArray, List.getElem_cons_succ, List.getElem_cons_zero, List.setIfInBounds_toArray, List.set_cons_zero, List.set_cons_succ]
  refine wpAnyH_take (i := 8) (v := .int .i64 n) rfl (by kernel_rfl) (by kernel_rfl) (by kernel_rfl) (fun _ _ _ h => h) (Or.inl ⟨by kernel_rfl, ?_⟩) (by assumption) ?_
  · intro w9 hSw; (try dsimp only at hSw); go_simp
  simp only [Act.put, List.getElem_toArray, List.getElem_cons_succ, List.getElem_cons_zero, List.setIfInBounds_toArray, List.set_cons_zero, List.set_cons_succ]
  refine wpAnyH_take (i := 9) (v := .int .i64 j) rfl (by kernel_rfl) (by kernel_rfl) (by kernel_rfl) (fun _ _ _ h => h) (Or.inl ⟨by kernel_rfl, ?_⟩) (by assumption) ?_
  · intro w9 hSw; (try dsimp only at hSw); go_simp
  simp only [Act.put, List.getElem_toArray, List.getElem_cons_succ, List.getElem_cons_zero, List.setIfInBounds_toArray, List.set_cons_zero, List.set_cons_succ]
  refine wpAnyH_take (i := 10) (v := .pointer (some ⟨b, off + j * 2, none⟩)) rfl (by kernel_rfl) (by kernel_rfl) (by kernel_rfl) (fun _ _ _ h => h) (Or.inl ⟨by kernel_rfl, ?_⟩) (by assumption) ?_
  · intro w9 hSw; (try dsimp only at hSw); go_simp
  simp only [Act.put, List.getElem_toArray, List.getElem_cons_succ, List.getElem_cons_zero, List.setIfInBounds_toArray, List.set_cons_zero, List.set_cons_succ]
  refine wpAnyH_take (i := 11) (v := .pointer (some ⟨b, off + j * 2, none⟩)) rfl (by kernel_rfl) (by kernel_rfl) (by kernel_rfl) (fun _ _ _ h => h) (Or.inl ⟨by kernel_rfl, ?_⟩) (by assumption) ?_
  · intro w9 hSw; (try dsimp only at hSw); go_simp
  simp only [Act.put, List.getElem_toArray, List.getElem_cons_succ, List.getElem_cons_zero, List.setIfInBounds_toArray, List.set_cons_zero, List.set_cons_succ]
  refine wpAnyH_take (i := 12) (v := .int .i64 z0) rfl (by kernel_rfl) (by kernel_rfl) (by kernel_rfl) (fun _ _ _ h => h) (Or.inl ⟨by kernel_rfl, ?_⟩) (by assumption) ?_
  · intro w9 hSw; (try dsimp only at hSw); go_simp
  simp only [Act.put, List.getElem_toArray, List.getElem_cons_succ, List.getElem_cons_zero, List.setIfInBounds_toArray, List.set_cons_zero, List.set_cons_succ]
  refine wpAnyH_take (i := 13) (v := .int .i64 (z0 + 1)) rfl (by kernel_rfl) (by kernel_rfl) (by kernel_rfl) (fun _ _ _ h => h) (Or.inl ⟨by kernel_rfl, ?_⟩) (by assumption) ?_
  · intro w9 hSw; (try dsimp only at hSw); go_simp
  simp only [Act.put, List.getElem_toArray, List.getElem_cons_succ, List.getElem_cons_zero, List.setIfInBounds_toArray, List.set_cons_zero, List.set_cons_succ]
  refine wpAnyH_take (i := 14) (v := .bool (x == z0 + 1)) rfl (by kernel_rfl) (by kernel_rfl) (by kernel_rfl) (fun _ _ _ h => h) (Or.inl ⟨by kernel_rfl, ?_⟩) (by assumption) ?_
  · intro w9 hSw; (try dsimp only at hSw); go_simp
  simp only [Act.put, List.getElem_toArray, List.getElem_cons_succ, List.getElem_cons_zero, List.setIfInBounds_toArray, List.set_cons_zero, List.set_cons_succ]
  refine wpAnyH_take (i := 15) (v := .bool (x == z0 + 1)) rfl (by kernel_rfl) (by kernel_rfl) (by kernel_rfl) (fun _ _ _ h => h) (Or.inl ⟨by kernel_rfl, ?_⟩) (by assumption) ?_
  · intro w9 hSw; (try dsimp only at hSw); go_simp
  simp only [Act.put, List.getElem_toArray, List.getElem_cons_succ, List.getElem_cons_zero, List.setIfInBounds_toArray, List.set_cons_zero, List.set_cons_succ]
  refine wpAnyH_take (i := 16) (v := .bool (x == z0 + 1)) rfl (by kernel_rfl) (by kernel_rfl) (by kernel_rfl) (fun _ _ _ h => h) (Or.inl ⟨by kernel_rfl, ?_⟩) (by assumption) ?_
  · intro w9 hSw; (try dsimp only at hSw); go_simp
  simp only [Act.put, List.getElem_toArray, List.getElem_cons_succ, List.getElem_cons_zero, List.setIfInBounds_toArray, List.set_cons_zero, List.set_cons_succ]
  refine wpAnyH_done (by kernel_rfl) ?_ _
  have bE := bA.drew
  go_wp2
  go_ret
  exact ⟨rfl, bE⟩

set_option maxRecDepth 100000 in
set_option maxHeartbeats 4000000 in
theorem implEnts_any (a : Option Addr) (n c : Nat) (d : List EntD) (w : World) (hr : Reads (.sl shEntry) w [.slice a n c] d) :
    Calls Tryz.prog 28 #[.slice a n c] w fun e w' => e = .returned (.bool (entsB d)) ∧ Below w.heap.size w w' := by
  obtain ⟨hl, hc1, hc2⟩ := reads_len hr
  unfold maxLen at hc2
  have HR : Hid (Reads (.sl shEntry) w [.slice a n c] d) := hr
  have HL : Hid (List.length (α := EntD) d = n) := hl
  obtain ⟨V, hV⟩ : ∃ V, V = entsB d := ⟨_, rfl⟩
  have HV : Hid (V = entsFrom (prevN d 0) (d.drop 0)) := hV
  rw [← hV]
  clear hr hl hV
  go_enter Tryz.func28, Tryz.ntmps28
  go_wp2
  go_loopw [7] (fun i wr => ∃ k : Nat, k ≤ n ∧ i = .int .i64 k ∧ Hid (V = entsFrom (prevN d k) (d.drop k)) ∧ Hid (∀ j x, k = j + 1 → d[j]? = some x → 1 ≤ x.1 ∧ x.1 ≤ 1000000000) ∧ Below w.heap.size w wr) (fun i _ => n - (intOf i).toNat)
  case atStart => exact ⟨0, Nat.zero_le _, rfl, HV, (fun j x h => by omega : ∀ j x, _ → _ → _), Below.refl _ _⟩
  case round =>
    obtain ⟨k, hk, rfl, HE, HP, hbel⟩ := hrel
    by_cases hlt : k < n
    · obtain ⟨b, off, cc, x, rfl, hb, hx, hrx, hcell⟩ := reads_elem HR.out k hlt
      have hst : V = (entB x.1 (ByteArray.size x.2.1) && linkB (prevN d k) x.1 && entsFrom (prevN d (k + 1)) (d.drop (k + 1))) := HE.out.trans (ents_step d k x hx)
      obtain ⟨rfl, ls⟩ := open_Entry hrx
      obtain ⟨y0, ey0⟩ : ∃ y : Int, y = x.1 := ⟨_, rfl⟩
      obtain ⟨y1, ey1⟩ : ∃ y : ByteArray, y = x.2.1 := ⟨_, rfl⟩
      have g0 : wr.cell? ⟨b, off + k * 2, none⟩ = some (.int .i64 y0) := by rw [ey0]; exact (hbel.cell (p := ⟨b, off + (k * 2 + 0), none⟩) hb).trans (hcell 0 (by decide))
      have g1 : wr.cell? ⟨b, off + k * 2 + 1, none⟩ = some (.string y1) := by rw [ey1]; exact (hbel.cell (p := ⟨b, off + (k * 2 + 1), none⟩) hb).trans (hcell 1 (by decide))
      rw [← ey0, ← ey1] at hst
      rw [← ey1] at ls
      have HX : Hid (d[k]? = some x ∧ y0 = x.1) := ⟨hx, ey0⟩
      obtain ⟨W0, hW0⟩ : ∃ W0, W0 = wr.alloc (.cells #[.int .i64 y0, .string y1] 71) := ⟨_, rfl⟩
      have hbs := hbel.size
      have bw0 : Below wr.heap.size wr W0 := by rw [hW0]; exact (Below.refl _ _).alloc (Nat.le_refl _) _
      have bW0 : Below w.heap.size w W0 := hbel.trans (bw0.mono hbs)
      have hbox : W0.heap[wr.heap.size]? = some (.cells #[.int .i64 y0, .string y1] 71 (0, 0)) := by rw [hW0]; exact heap_alloc_new wr _
      have zlt0 : wr.heap.size < W0.heap.size := by rw [hW0]; simp
      have BX : Hid (∀ w', Below W0.heap.size W0 w' → w'.cell? ⟨wr.heap.size, 0, none⟩ = some (.int .i64 y0) ∧ w'.cell? ⟨wr.heap.size, 1, none⟩ = some (.string y1)) := fun w' h' => by
        have i := (h'.block _ zlt0).trans hbox
        exact ⟨box_cell i rfl, box_cell i rfl⟩
      have HW0 : Hid (W0 = wr.alloc (.cells #[.int .i64 y0, .string y1] 71)) := hW0
      have bD0 : Below W0.heap.size W0 W0.drew := (Below.refl _ _).drew
      obtain ⟨v0, v1⟩ := BX.out W0 (Below.refl _ _)
      have hNx : Hid (∀ V', V = V' → entB y0 y1.size = true → Hid (V = V') ∧ Hid (∀ j x, k + 1 = j + 1 → d[j]? = some x → 1 ≤ x.1 ∧ x.1 ≤ 1000000000)) := fun V' h1 h2 => ⟨h1, (fun j z hj hz => by
        obtain rfl : k = j := by omega
        rw [HX.out.1] at hz
        obtain rfl := Option.some.inj hz
        rw [← HX.out.2]
        have := (entB_iff _ _).1 h2
        omega : ∀ j x, _ → _ → _)⟩
      clear hcell hrx hx ey0 ey1 hW0 hbox
      cases hB : entB y0 y1.size with
      | false =>
        have EE : Hid (V = false) := by show _ = _; rw [hst, hB]; rfl
        have qE : Hid (∀ w', Calls Tryz.prog 65 #[.agg #[.int .i64 y0, .string y1]] w' fun e w'' => e = .returned (.bool false) ∧ Below w'.heap.size w' w'') := fun w' => by rw [← hB]; exact implEnt_any _ _ w' ls
        clear hst hB hNx
        go_wp2_with fail
        rw [← HW0.out]
        refine wp_region_held_drew (S := fun w' => w'.cell? ⟨wr.heap.size, 0, none⟩ = some (.int .i64 y0) ∧ w'.cell? ⟨wr.heap.size, 1, none⟩ = some (.string y1)) (by kernel_rfl) ⟨v0, v1⟩ (fun hHeld => ?_)
        refine wpAnyH_take (i := 0) (v := .agg #[.int .i64 y0, .string y1]) rfl (by kernel_rfl) (by kernel_rfl) (by kernel_rfl) (fun _ _ _ h => h) (Or.inl ⟨by kernel_rfl, ?_⟩) (by assumption) ?_
        · intro w9 hSw; (try dsimp only at hSw); go_simp
        simp only [Act.put, List.getElem_toArray, List.getElem_cons_succ, List.getElem_cons_zero, List.setIfInBounds_toArray, List.set_cons_zero, List.set_cons_succ]
        refine wpAnyH_ready (rs := [1]) (by kernel_rfl) (by simp) ?_
        refine AllReadyH.cons rfl (fun K hK => ?_) AllReadyH.nil
        go_simp
        refine (qE.out _).mono ?_
        rintro e w1 ⟨rfl, hb1⟩
        have d1 : Below W0.heap.size W0 w1 := bD0.trans (hb1.mono bD0.size)
        clear hb1
        go_wp2_with fail
        refine hK.out _ _ (BX.out w1 d1) (fun hHeld1 => ?_)
        clear hK
        refine wpAnyH_take (i := 2) (v := .bool true) rfl (by kernel_rfl) (by kernel_rfl) (by kernel_rfl) (fun _ _ _ h => h) (Or.inl ⟨by kernel_rfl, ?_⟩) (by assumption) ?_
        · intro w9 hSw; (try dsimp only at hSw); go_simp
        simp only [Act.put, List.getElem_toArray, List.getElem_cons_succ, List.getElem_cons_zero, List.setIfInBounds_toArray, List.set_cons_zero, List.set_cons_succ]
        refine wpAnyH_take (i := 3) (v := .bool true) rfl (by kernel_rfl) (by kernel_rfl) (by kernel_rfl) (fun _ _ _ h => h) (Or.inl ⟨by kernel_rfl, ?_⟩) (by assumption) ?_
        · intro w9 hSw; (try dsimp only at hSw); go_simp
        simp only [Act.put, List.getElem_toArray, List.getElem_cons_succ, List.getElem_cons_zero, List.setIfInBounds_toArray, List.set_cons_zero, List.set_cons_succ]
        refine wpAnyH_take (i := 4) (v := undef) rfl (by kernel_rfl) (by kernel_rfl) (by kernel_rfl) (fun _ _ _ h => h) (Or.inr ⟨by kernel_rfl, rfl⟩) (by assumption) ?_
        simp only [Act.put, List.getElem_toArray, List.getElem_cons_succ, List.getElem_cons_zero, List.setIfInBounds_toArray, List.set_cons_zero, List.set_cons_succ]
        refine wpAnyH_take (i := 5) (v := undef) rfl (by kernel_rfl) (by kernel_rfl) (by kernel_rfl) (fun _ _ _ h => h) (Or.inr ⟨by kernel_rfl, rfl⟩) (by assumption) ?_
        simp only [Act.put, List.getElem_toArray, List.getElem_cons_succ, List.getElem_cons_zero, List.setIfInBounds_toArray, List.set_cons_zero, List.set_cons_succ]
        refine wpAnyH_take (i := 6) (v := undef) rfl (by kernel_rfl) (by kernel_rfl) (by kernel_rfl) (fun _ _ _ h => h) (Or.inr ⟨by kernel_rfl, rfl⟩) (by assumption) ?_
        simp only [Act.put, List.getElem_toArray, List.getElem_cons_succ, List.getElem_cons_zero, List.setIfInBounds_toArray, List.set_cons_zero, List.set_cons_succ]
        refine wpAnyH_take (i := 7) (v := undef) rfl (by kernel_rfl) (by kernel_rfl) (by kernel_rfl) (fun _ _ _ h => h) (Or.inr ⟨by kernel_rfl, rfl⟩) (by assumption) ?_
        simp only [Act.put, List.getElem_toArray, List.getElem_cons_succ, List.getElem_cons_zero, List.setIfInBounds_toArray, List.set_cons_zero, List.set_cons_succ]
        refine wpAnyH_take (i := 8) (v := undef) rfl (by kernel_rfl) (by kernel_rfl) (by kernel_rfl) (fun _ _ _ h => h) (Or.inr ⟨by kernel_rfl, rfl⟩) (by assumption) ?_
        simp only [Act.put, List.getElem_toArray, List.getElem_cons_succ, List.getElem_cons_zero, List.setIfInBounds_toArray, List.set_cons_zero, List.set_cons_succ]
        refine wpAnyH_take (i := 9) (v := undef) rfl (by kernel_rfl) (by kernel_rfl) (by kernel_rfl) (fun _ _ _ h => h) (Or.inr ⟨by kernel_rfl, rfl⟩) (by assumption) ?_
        simp only [Act.put, List.getElem_toArray, List.getElem_cons_succ, List.getElem_cons_zero, List.setIfInBounds_toArray, List.set_cons_zero, List.set_cons_succ]
        refine wpAnyH_take (i := 10) (v := .bool true) rfl (by kernel_rfl) (by kernel_rfl) (by kernel_rfl) (fun _ _ _ h => h) (Or.inl ⟨by kernel_rfl, ?_⟩) (by assumption) ?_
        · intro w9 hSw; (try dsimp only at hSw); go_simp
        simp only [Act.put, List.getElem_toArray, List.getElem_cons_succ, List.getElem_cons_zero, List.setIfInBounds_toArray, List.set_cons_zero, List.set_cons_succ]
        refine wpAnyH_done (by kernel_rfl) ?_ _
        have bE := bW0.trans (d1.mono bW0.size)
        go_wp2
        go_ret
        exact ⟨by rw [EE.out]; rfl, bE⟩
      | true =>
        have qE : Hid (∀ w', Calls Tryz.prog 65 #[.agg #[.int .i64 y0, .string y1]] w' fun e w'' => e = .returned (.bool true) ∧ Below w'.heap.size w' w'') := fun w' => by rw [← hB]; exact implEnt_any _ _ w' ls
        have hyb := (entB_iff _ _).1 hB
        have hkn1 : (0 : Int) ≤ (k : Int) := by omega
        have hkn2 : (k : Int) ≤ (n : Int) := by omega
        have hkn3 : (k : Int) ≤ (c : Int) := by omega
        obtain ⟨Fo, hFo⟩ : ∃ Fo, Fo = linkB (prevN d k) y0 := ⟨_, rfl⟩
        have qF : Hid (∀ w', Below W0.heap.size W0 w' → Calls Tryz.prog 66 #[.slice (some ⟨b, off, none⟩) k c, .agg #[.int .i64 y0, .string y1]] w' fun e w'' => e = .returned (.bool Fo) ∧ Below w'.heap.size w' w'') := fun w' hw' => by
          by_cases hk0 : k = 0
          · rw [hFo, show prevN d k = none by rw [hk0]; rfl, hk0]
            exact follows_none _ _ _ _ _
          · obtain ⟨j, hj⟩ : ∃ j, k = j + 1 := ⟨k - 1, by omega⟩
            obtain ⟨b', off', c2, z, he, hb2, hz, hrz, hcell2⟩ := reads_elem HR.out j (by omega)
            simp only [Option.some.injEq, Addr.mk.injEq, and_true] at he
            obtain ⟨rfl, rfl⟩ := he
            obtain ⟨rfl, ls2⟩ := open_Entry hrz
            obtain ⟨z0, ez0⟩ : ∃ y : Int, y = z.1 := ⟨_, rfl⟩
            have p0 : W0.cell? ⟨b, off + j * 2, none⟩ = some (.int .i64 z0) := by rw [ez0]; exact (bW0.cell (p := ⟨b, off + (j * 2 + 0), none⟩) hb).trans (hcell2 0 (by decide))
            have hzb : 1 ≤ z0 ∧ z0 ≤ 1000000000 := by rw [ez0]; exact HP.out j z hj hz
            have hbW : b < W0.heap.size := Nat.lt_of_lt_of_le hb (Nat.le_trans hbs (Nat.le_of_lt zlt0))
            have e1 : Fo = (y0 == z0 + 1) := by
              rw [hFo, show prevN d k = some z0 by rw [hj, ez0]; exact prevN_succ d j z hz]
              show decide (y0 = z0 + 1) = (y0 == z0 + 1)
              rw [Bool.eq_iff_iff]; simp
            rw [e1, hj]
            exact follows_some b off j c z0 y0 y1 w' (Nat.lt_of_lt_of_le hbW hw'.size) ((hw'.cell (p := ⟨b, off + j * 2, none⟩) hbW).trans p0) (by omega) hzb.1 hzb.2
        rw [← hFo] at hst
        cases hF : Fo with
        | true =>
          have EE := hNx.out _ (by rw [hst, hB, hF]; rfl : V = entsFrom (prevN d (k + 1)) (d.drop (k + 1))) hB
          rw [hF] at qF
          clear hst hB hNx HE HP hFo hF
          go_wp2_with fail
          rw [← HW0.out]
          refine wp_region_held_drew (S := fun w' => w'.cell? ⟨wr.heap.size, 0, none⟩ = some (.int .i64 y0) ∧ w'.cell? ⟨wr.heap.size, 1, none⟩ = some (.string y1)) (by kernel_rfl) ⟨v0, v1⟩ (fun hHeld => ?_)
          refine wpAnyH_take (i := 0) (v := .agg #[.int .i64 y0, .string y1]) rfl (by kernel_rfl) (by kernel_rfl) (by kernel_rfl) (fun _ _ _ h => h) (Or.inl ⟨by kernel_rfl, ?_⟩) (by assumption) ?_
          · intro w9 hSw; (try dsimp only at hSw); go_simp
          simp only [Act.put, List.getElem_toArray, List.getElem_cons_succ, List.getElem_cons_zero, List.setIfInBounds_toArray, List.set_cons_zero, List.set_cons_succ]
          refine wpAnyH_ready (rs := [1]) (by kernel_rfl) (by simp) ?_
          refine AllReadyH.cons rfl (fun K hK => ?_) AllReadyH.nil
          go_simp
          refine (qE.out _).mono ?_
          rintro e w1 ⟨rfl, hb1⟩
          have d1 : Below W0.heap.size W0 w1 := bD0.trans (hb1.mono bD0.size)
          clear hb1
          go_wp2_with fail
          refine hK.out _ _ (BX.out w1 d1) (fun hHeld1 => ?_)
          clear hK
          refine wpAnyH_take (i := 2) (v := .bool false) rfl (by kernel_rfl) (by kernel_rfl) (by kernel_rfl) (fun _ _ _ h => h) (Or.inl ⟨by kernel_rfl, ?_⟩) (by assumption) ?_
          · intro w9 hSw; (try dsimp only at hSw); go_simp
          simp only [Act.put, List.getElem_toArray, List.getElem_cons_succ, List.getElem_cons_zero, List.setIfInBounds_toArray, List.set_cons_zero, List.set_cons_succ]
          refine wpAnyH_take (i := 3) (v := .bool false) rfl (by kernel_rfl) (by kernel_rfl) (by kernel_rfl) (fun _ _ _ h => h) (Or.inl ⟨by kernel_rfl, ?_⟩) (by assumption) ?_
          · intro w9 hSw; (try dsimp only at hSw); go_simp
          simp only [Act.put, List.getElem_toArray, List.getElem_cons_succ, List.getElem_cons_zero, List.setIfInBounds_toArray, List.set_cons_zero, List.set_cons_succ]
          refine wpAnyH_take (i := 4) (v := .slice (some ⟨b, off, none⟩) n c) rfl (by kernel_rfl) (by kernel_rfl) (by kernel_rfl) (fun _ _ _ h => h) (Or.inl ⟨by kernel_rfl, ?_⟩) (by assumption) ?_
          · intro w9 hSw; (try dsimp only at hSw); go_simp
          simp only [Act.put, List.getElem_toArray, List.getElem_cons_succ, List.getElem_cons_zero, List.setIfInBounds_toArray, List.set_cons_zero, List.set_cons_succ]
          refine wpAnyH_take (i := 5) (v := .int .i64 k) rfl (by kernel_rfl) (by kernel_rfl) (by kernel_rfl) (fun _ _ _ h => h) (Or.inl ⟨by kernel_rfl, ?_⟩) (by assumption) ?_
          · intro w9 hSw; (try dsimp only at hSw); go_simp
          simp only [Act.put, List.getElem_toArray, List.getElem_cons_succ, List.getElem_cons_zero, List.setIfInBounds_toArray, List.set_cons_zero, List.set_cons_succ]
          refine wpAnyH_take (i := 6) (v := .slice (some ⟨b, off, none⟩) k c) rfl (by kernel_rfl) (by kernel_rfl) (by kernel_rfl) (fun _ _ _ h => h) (Or.inl ⟨by kernel_rfl, ?_⟩) (by assumption) ?_
          · intro w9 hSw; (try dsimp only at hSw); go_simp
          simp only [Act.put, List.getElem_toArray, List.getElem_cons_succ, List.getElem_cons_zero, List.setIfInBounds_toArray, List.set_cons_zero, List.set_cons_succ]
          refine wpAnyH_take (i := 7) (v := .agg #[.int .i64 y0, .string y1]) rfl (by kernel_rfl) (by kernel_rfl) (by kernel_rfl) (fun _ _ _ h => h) (Or.inl ⟨by kernel_rfl, ?_⟩) (by assumption) ?_
          · intro w9 hSw; (try dsimp only at hSw); go_simp
          simp only [Act.put, List.getElem_toArray, List.getElem_cons_succ, List.getElem_cons_zero, List.setIfInBounds_toArray, List.set_cons_zero, List.set_cons_succ]
          refine wpAnyH_ready (rs := [8]) (by kernel_rfl) (by simp) ?_
          refine AllReadyH.cons rfl (fun K hK => ?_) AllReadyH.nil
          go_simp
          refine (qF.out _ d1).mono ?_
          rintro e w2 ⟨rfl, hb2⟩
          have d2 : Below W0.heap.size W0 w2 := d1.trans (hb2.mono d1.size)
          clear hb2
          go_wp2_with fail
          refine hK.out _ _ (BX.out w2 d2) (fun hHeld8 => ?_)
          clear hK
          refine wpAnyH_take (i := 9) (v := .bool false) rfl (by kernel_rfl) (by kernel_rfl) (by kernel_rfl) (fun _ _ _ h => h) (Or.inl ⟨by kernel_rfl, ?_⟩) (by assumption) ?_
          · intro w9 hSw; (try dsimp only at hSw); go_simp
          simp only [Act.put, List.getElem_toArray, List.getElem_cons_succ, List.getElem_cons_zero, List.setIfInBounds_toArray, List.set_cons_zero, List.set_cons_succ]
          refine wpAnyH_take (i := 10) (v := .bool false) rfl (by kernel_rfl) (by kernel_rfl) (by kernel_rfl) (fun _ _ _ h => h) (Or.inl ⟨by kernel_rfl, ?_⟩) (by assumption) ?_
          · intro w9 hSw; (try dsimp only at hSw); go_simp
          simp only [Act.put, List.getElem_toArray, List.getElem_cons_succ, List.getElem_cons_zero, List.setIfInBounds_toArray, List.set_cons_zero, List.set_cons_succ]
          refine wpAnyH_done (by kernel_rfl) ?_ _
          have bE := bW0.trans (d2.mono bW0.size)
          go_wp2
          go_roundw
          case rel => exact ⟨k + 1, by omega, by go_num, EE.1, EE.2, bE⟩
          case measure => simp [intOf]; omega
        | false =>
          have EE : Hid (V = false) := by show _ = _; rw [hst, hB, hF]; rfl
          rw [hF] at qF
          clear hst hB hNx HE HP hFo hF
          go_wp2_with fail
          rw [← HW0.out]
          refine wp_region_held_drew (S := fun w' => w'.cell? ⟨wr.heap.size, 0, none⟩ = some (.int .i64 y0) ∧ w'.cell? ⟨wr.heap.size, 1, none⟩ = some (.string y1)) (by kernel_rfl) ⟨v0, v1⟩ (fun hHeld => ?_)
          refine wpAnyH_take (i := 0) (v := .agg #[.int .i64 y0, .string y1]) rfl (by kernel_rfl) (by kernel_rfl) (by kernel_rfl) (fun _ _ _ h => h) (Or.inl ⟨by kernel_rfl, ?_⟩) (by assumption) ?_
          · intro w9 hSw; (try dsimp only at hSw); go_simp
          simp only [Act.put, List.getElem_toArray, List.getElem_cons_succ, List.getElem_cons_zero, List.setIfInBounds_toArray, List.set_cons_zero, List.set_cons_succ]
          refine wpAnyH_ready (rs := [1]) (by kernel_rfl) (by simp) ?_
          refine AllReadyH.cons rfl (fun K hK => ?_) AllReadyH.nil
          go_simp
          refine (qE.out _).mono ?_
          rintro e w1 ⟨rfl, hb1⟩
          have d1 : Below W0.heap.size W0 w1 := bD0.trans (hb1.mono bD0.size)
          clear hb1
          go_wp2_with fail
          refine hK.out _ _ (BX.out w1 d1) (fun hHeld1 => ?_)
          clear hK
          refine wpAnyH_take (i := 2) (v := .bool false) rfl (by kernel_rfl) (by kernel_rfl) (by kernel_rfl) (fun _ _ _ h => h) (Or.inl ⟨by kernel_rfl, ?_⟩) (by assumption) ?_
          · intro w9 hSw; (try dsimp only at hSw); go_simp
          simp only [Act.put, List.getElem_toArray, List.getElem_cons_succ, List.getElem_cons_zero, List.setIfInBounds_toArray, List.set_cons_zero, List.set_cons_succ]
          refine wpAnyH_take (i := 3) (v := .bool false) rfl (by kernel_rfl) (by kernel_rfl) (by kernel_rfl) (fun _ _ _ h => h) (Or.inl ⟨by kernel_rfl, ?_⟩) (by assumption) ?_
          · intro w9 hSw; (try dsimp only at hSw); go_simp
          simp only [Act.put, List.getElem_toArray, List.getElem_cons_succ, List.getElem_cons_zero, List.setIfInBounds_toArray, List.set_cons_zero, List.set_cons_succ]
          refine wpAnyH_take (i := 4) (v := .slice (some ⟨b, off, none⟩) n c) rfl (by kernel_rfl) (by kernel_rfl) (by kernel_rfl) (fun _ _ _ h => h) (Or.inl ⟨by kernel_rfl, ?_⟩) (by assumption) ?_
          · intro w9 hSw; (try dsimp only at hSw); go_simp
          simp only [Act.put, List.getElem_toArray, List.getElem_cons_succ, List.getElem_cons_zero, List.setIfInBounds_toArray, List.set_cons_zero, List.set_cons_succ]
          refine wpAnyH_take (i := 5) (v := .int .i64 k) rfl (by kernel_rfl) (by kernel_rfl) (by kernel_rfl) (fun _ _ _ h => h) (Or.inl ⟨by kernel_rfl, ?_⟩) (by assumption) ?_
          · intro w9 hSw; (try dsimp only at hSw); go_simp
          simp only [Act.put, List.getElem_toArray, List.getElem_cons_succ, List.getElem_cons_zero, List.setIfInBounds_toArray, List.set_cons_zero, List.set_cons_succ]
          refine wpAnyH_take (i := 6) (v := .slice (some ⟨b, off, none⟩) k c) rfl (by kernel_rfl) (by kernel_rfl) (by kernel_rfl) (fun _ _ _ h => h) (Or.inl ⟨by kernel_rfl, ?_⟩) (by assumption) ?_
          · intro w9 hSw; (try dsimp only at hSw); go_simp
          simp only [Act.put, List.getElem_toArray, List.getElem_cons_succ, List.getElem_cons_zero, List.setIfInBounds_toArray, List.set_cons_zero, List.set_cons_succ]
          refine wpAnyH_take (i := 7) (v := .agg #[.int .i64 y0, .string y1]) rfl (by kernel_rfl) (by kernel_rfl) (by kernel_rfl) (fun _ _ _ h => h) (Or.inl ⟨by kernel_rfl, ?_⟩) (by assumption) ?_
          · intro w9 hSw; (try dsimp only at hSw); go_simp
          simp only [Act.put, List.getElem_toArray, List.getElem_cons_succ, List.getElem_cons_zero, List.setIfInBounds_toArray, List.set_cons_zero, List.set_cons_succ]
          refine wpAnyH_ready (rs := [8]) (by kernel_rfl) (by simp) ?_
          refine AllReadyH.cons rfl (fun K hK => ?_) AllReadyH.nil
          go_simp
          refine (qF.out _ d1).mono ?_
          rintro e w2 ⟨rfl, hb2⟩
          have d2 : Below W0.heap.size W0 w2 := d1.trans (hb2.mono d1.size)
          clear hb2
          go_wp2_with fail
          refine hK.out _ _ (BX.out w2 d2) (fun hHeld8 => ?_)
          clear hK
          refine wpAnyH_take (i := 9) (v := .bool true) rfl (by kernel_rfl) (by kernel_rfl) (by kernel_rfl) (fun _ _ _ h => h) (Or.inl ⟨by kernel_rfl, ?_⟩) (by assumption) ?_
          · intro w9 hSw; (try dsimp only at hSw); go_simp
          simp only [Act.put, List.getElem_toArray, List.getElem_cons_succ, List.getElem_cons_zero, List.setIfInBounds_toArray, List.set_cons_zero, List.set_cons_succ]
          refine wpAnyH_take (i := 10) (v := .bool true) rfl (by kernel_rfl) (by kernel_rfl) (by kernel_rfl) (fun _ _ _ h => h) (Or.inl ⟨by kernel_rfl, ?_⟩) (by assumption) ?_
          · intro w9 hSw; (try dsimp only at hSw); go_simp
          simp only [Act.put, List.getElem_toArray, List.getElem_cons_succ, List.getElem_cons_zero, List.setIfInBounds_toArray, List.set_cons_zero, List.set_cons_succ]
          refine wpAnyH_done (by kernel_rfl) ?_ _
          have bE := bW0.trans (d2.mono bW0.size)
          go_wp2
          go_ret
          exact ⟨by rw [EE.out]; rfl, bE⟩
    · have e : k = n := by omega
      subst e
      have EE : Hid (V = true) := by show _ = _; rw [HE.out]; exact ents_end d k (Nat.le_of_eq HL.out) _
      go_wp2
      go_ret
      exact ⟨by rw [EE.out]; rfl, hbel⟩

end Go.Proofs.YtkfmpfbhhmmllaaGreat

/- ScI: Scan of the program. By program (scgen.py). -/
namespace Go.Proofs.YtkfmpfbhhmmllaaGreat
open Go.RowKit
set_option linter.unusedVariables false
set_option maxRecDepth 100000
set_option linter.unusedSimpArgs false

set_option maxRecDepth 100000 in
set_option maxHeartbeats 4000000 in
theorem implScan_any (v : Value) (zs : List Int) (w : World) (hr : Reads (.sl .u8) w [v] zs) (hn : zs.length ≤ 1048576) :
    Calls Tryz.prog 78 #[v] w fun e w' => ∃ u, e = .returned (.tuple #[u, .int .i64 ((scanA zs).2 : Int)]) ∧ w'.ownsRow w.heap.size 71 2 u (scanA zs).1.length (cellsE (scanA zs).1) ∧ Hid (AccOk (scanA zs).1 ∧ (scanA zs).2 ≤ zs.length) ∧ Below w.heap.size w w' := by
  obtain ⟨i0, hi, hz0, hz1, hz2⟩ := info_parts infoEntry
  obtain ⟨R, hR⟩ : ∃ R, R = scanA zs := ⟨_, rfl⟩
  rw [← hR]
  obtain ⟨n, hnz⟩ : ∃ n, n = zs.length := ⟨_, rfl⟩
  rw [← hnz] at hn ⊢
  have hz : Byt zs := by
    obtain ⟨a, c, rfl, _, _⟩ := reads_val hr
    exact (reads_bytes hr).2.1.1
  have qF : Hid (∀ w' (p : Nat), Below w.heap.size w w' → p ≤ n → Calls Tryz.prog 107 #[v, .int .i64 (p : Int)] w' fun e w'' => e = .returned (.tuple #[.agg #[.int .i64 (frAns zs (p : Int)).1, .string (frAns zs (p : Int)).2.1], .int .i64 (frAns zs (p : Int)).2.2.1, .int .i64 (frAns zs (p : Int)).2.2.2]) ∧ Below w'.heap.size w' w'') := fun w' p hb hp => rf_impl v zs p w' (hr.later hb) (by omega) (by omega) (by omega)
  have qOk : Hid (∀ p : Nat, (frAns zs (p : Int)).2.2.2 = 0 → 1 ≤ (frAns zs (p : Int)).1 ∧ (frAns zs (p : Int)).1 ≤ 1000000000 ∧ (frAns zs (p : Int)).2.1.size ≤ 1000 ∧ ∃ nx : Nat, (frAns zs (p : Int)).2.2.1 = (nx : Int) ∧ p + 11 ≤ nx ∧ nx ≤ n) := fun p h => by rw [hnz]; exact fr_ok zs hz p h
  have HR0 : Hid (R = scanL zs (n + 1) [] 0) := by show _ = _; rw [hR, hnz]; rfl
  clear hr hR hnz hz
  have HO : Hid (w.ownsRow w.heap.size 71 2 (.slice none 0 0) 0 []) := ⟨rfl, .inl ⟨rfl, rfl⟩⟩
  have bA : Below w.heap.size w w := Below.refl _ _
  go_enter Tryz.func78, Tryz.ntmps78
  go_wp2
  go_loopw [4, 5] (fun u i wr => ∃ (f p m : Nat) (acc : List EntD) (uu : Value), uu = u ∧ i = .int .i64 p ∧ wr.ownsRow w.heap.size 71 2 uu m (cellsE acc) ∧ Hid (acc.length = m ∧ R = scanL zs f acc p ∧ n + 1 ≤ f + p ∧ AccOk acc) ∧ p ≤ n ∧ m ≤ p ∧ Below w.heap.size w wr) (fun _ i _ => n + 1 - (intOf i).toNat)
  case atStart => exact ⟨n + 1, 0, 0, [], _, rfl, rfl, HO.out, ⟨rfl, HR0.out, by omega, fun x hx => by cases hx⟩, by omega, by omega, bA⟩
  case round =>
    obtain ⟨f, p, m, acc, u, rfl, rfl, hown, HA, hp, hm, hbel⟩ := hrel
    obtain ⟨ua, uc, rfl⟩ := own_sliceE hown
    have hbs := hbel.size
    obtain ⟨y0, hy0⟩ : ∃ y, y = (frAns zs (p : Int)).1 := ⟨_, rfl⟩
    obtain ⟨y1, hy1⟩ : ∃ y, y = (frAns zs (p : Int)).2.1 := ⟨_, rfl⟩
    obtain ⟨nx, hnx⟩ : ∃ y, y = (frAns zs (p : Int)).2.2.1 := ⟨_, rfl⟩
    obtain ⟨cd, hcd⟩ : ∃ y, y = (frAns zs (p : Int)).2.2.2 := ⟨_, rfl⟩
    have q1 : Hid (∀ w', Below w.heap.size w w' → Calls Tryz.prog 107 #[v, .int .i64 (p : Int)] w' fun e w'' => e = .returned (.tuple #[.agg #[.int .i64 y0, .string y1], .int .i64 nx, .int .i64 cd]) ∧ Below w'.heap.size w' w'') := fun w' hb' => by rw [hy0, hy1, hnx, hcd]; exact qF.out w' p hb' hp
    have hgo : goesOn zs acc p = (decide (cd = 0) && linkB (lastNum acc) y0) := by rw [hy0, hcd]; rfl
    have hrec : recOf zs p = (y0, y1, ()) := by rw [hy0, hy1]; rfl
    have hok := qOk.out p
    rw [← hy0, ← hy1, ← hnx, ← hcd] at hok
    have hsc := HA.out.2.1
    have hff := HA.out.2.2.1
    have hon : goesOn zs acc p = true → R = scanL zs (f - 1) (acc ++ [(y0, y1, ())]) nx.toNat := fun h => by rw [hsc, scanL_on zs f acc p h (by omega), hrec, hnx]
    have hend : goesOn zs acc p = false → R = (acc, p) := fun h => by rw [hsc, scanL_end zs f acc p h]
    have HFin : Hid (goesOn zs acc p = false → ∀ W : World, W.ownsRow w.heap.size 71 2 (.slice ua m uc) m (cellsE acc) → (p : Int) = (R.2 : Int) ∧ W.ownsRow w.heap.size 71 2 (.slice ua m uc) R.1.length (cellsE R.1) ∧ Hid (AccOk R.1 ∧ R.2 ≤ n)) := fun h W hW => by
      have e := hend h
      rw [e]
      refine ⟨rfl, ?_, ⟨HA.out.2.2.2, hp⟩⟩
      show W.ownsRow _ _ _ _ acc.length _
      rw [HA.out.1]; exact hW
    go_wp2_with fail
    refine (q1.out _ hbel).mono ?_
    rintro e w2 ⟨rfl, hb2⟩
    have b2 := hbel.trans (hb2.mono hbs)
    have ho2 := own_later hown hb2
    obtain ⟨W0, hW0⟩ : ∃ W0, W0 = w2.alloc (.cells #[.int .i64 y0, .string y1] 71) := ⟨_, rfl⟩
    have bw0 : Below w2.heap.size w2 W0 := by rw [hW0]; exact (Below.refl _ _).alloc (Nat.le_refl _) _
    have bW0 : Below w.heap.size w W0 := b2.trans (bw0.mono b2.size)
    have hbox : W0.heap[w2.heap.size]? = some (.cells #[.int .i64 y0, .string y1] 71 (0, 0)) := by rw [hW0]; exact heap_alloc_new w2 _
    have zlt0 : w2.heap.size < W0.heap.size := by rw [hW0]; simp
    have HW0 : Hid (W0 = w2.alloc (.cells #[.int .i64 y0, .string y1] 71)) := hW0
    have ho3 := own_later ho2 bw0
    have HO3 : Hid (W0.ownsRow w.heap.size 71 2 (.slice ua m uc) m (cellsE acc)) := ho3
    have BX : Hid (∀ w', Below W0.heap.size W0 w' → w'.cell? ⟨w2.heap.size, 0, none⟩ = some (.int .i64 y0) ∧ w'.cell? ⟨w2.heap.size, 1, none⟩ = some (.string y1)) := fun w' h' => by
      have i := (h'.block _ zlt0).trans hbox
      exact ⟨box_cell i rfl, box_cell i rfl⟩
    have bD0 : Below W0.heap.size W0 W0.drew := (Below.refl _ _).drew
    obtain ⟨v0, v1⟩ := BX.out W0 (Below.refl _ _)
    clear hown ho2 hW0 hbox hy0 hy1 hnx hcd hrec hsc hb2 bw0 ho3 hend qF qOk q1
    by_cases hc : cd = 0
    case neg =>
      have hgf : goesOn zs acc p = false := by rw [hgo]; simp [hc]
      have FN := HFin.out hgf
      have hc1 : (cd == 0) = false := by simp; exact hc
      clear hgo hok hon HFin hgf
      have bX : Below w.heap.size w (w2.alloc (.cells #[.int .i64 y0, .string y1] 71)) := by rw [← HW0.out]; exact bW0
      have oX : (w2.alloc (.cells #[.int .i64 y0, .string y1] 71)).ownsRow w.heap.size 71 2 (.slice ua m uc) m (cellsE acc) := by rw [← HW0.out]; exact HO3.out
      go_wp2
      go_ret2
      exact ⟨_, by rw [← (FN _ oX).1]; rfl, (FN _ oX).2.1, (FN _ oX).2.2, bX⟩
    subst hc
    obtain ⟨k1, k2, k3, nn, k4, k5, k6⟩ := hok rfl
    subst k4
    have FNX : Hid (goesOn zs acc p = true → (acc ++ [(y0, y1, ())]).length = m + 1 ∧ R = scanL zs (f - 1) (acc ++ [(y0, y1, ())]) nn ∧ n + 1 ≤ f - 1 + nn ∧ AccOk (acc ++ [(y0, y1, ())])) := fun h => by
      refine ⟨by rw [List.length_append, HA.out.1]; rfl, hon h, by omega, accOk_snoc _ _ HA.out.2.2.2 ⟨k1, k2, k3⟩⟩
    have HCE : Hid (cellsE (acc ++ [(y0, y1, ())]) = cellsE acc ++ [.int .i64 y0, .string y1]) := cellsE_snoc _ _
    clear hok hon
    have qL : Hid (∀ w', Below W0.heap.size W0 w' → Calls Tryz.prog 66 #[.slice ua m uc, .agg #[.int .i64 y0, .string y1]] w' fun e w'' => e = .returned (.bool (goesOn zs acc p)) ∧ Below w'.heap.size w' w'') := fun w' hw' => by
      rw [hgo]
      by_cases hm0 : m = 0
      · have hlk : lastNum acc = none := by unfold lastNum; rw [HA.out.1, hm0]; rfl
        rw [hlk, hm0]
        exact follows_none _ _ _ _ _
      · obtain ⟨j, hj⟩ : ∃ j, m = j + 1 := ⟨m - 1, by omega⟩
        obtain ⟨g, cq, he, hg1, hg2⟩ := own_form HO3.out (by omega)
        simp only [Value.slice.injEq, and_true] at he
        obtain ⟨rfl, hcq⟩ := he
        have oW := own_later HO3.out hw'
        obtain ⟨z, hzz, hlk, hmem, hcell⟩ := own_last (j := j) (g := g) (c := uc) (by rw [← hj]; exact oW) (by rw [HA.out.1, hj])
        have hzb := HA.out.2.2.2 z hmem
        have e1 : (decide ((0 : Int) = 0) && linkB (lastNum acc) y0) = (y0 == z.1 + 1) := by
          rw [hlk, Bool.eq_iff_iff]; simp [linkB]
        rw [e1, hj]
        exact follows_some g 0 j uc z.1 y0 y1 w' (Nat.lt_of_lt_of_le hg2 hw'.size) hcell (by omega) hzb.1 hzb.2.1
    cases hG : goesOn zs acc p with
    | true =>
      have FN := FNX.out hG
      rw [hG] at qL
      have FNh : Hid ((acc ++ [(y0, y1, ())]).length = m + 1 ∧ R = scanL zs (f - 1) (acc ++ [(y0, y1, ())]) nn ∧ n + 1 ≤ f - 1 + nn ∧ AccOk (acc ++ [(y0, y1, ())])) := FN
      clear hgo hG FN FNX HFin
      go_wp2_with fail
      rw [← HW0.out]
      refine (qL.out _ (Below.refl _ _)).mono ?_
      rintro e w5 ⟨rfl, hb5⟩
      have oW := own_later HO3.out hb5
      have bWW := bW0.trans ((hb5).mono bW0.size)
      obtain ⟨x0, x1⟩ := BX.out w5 hb5
      go_wp2_with (at_builtin; refine wpList_append_src rfl _ _ 37 rfl w.heap.size 71 i0 (.agg #[.int .i64 0, .string ByteArray.empty]) 2 24 Tryz.underlying37 hi hz0 hz1 hz2 rfl (by decide) (.slice ua m uc) m (cellsE acc) rfl (oW.alloc _) (.slice (some ⟨w5.heap.size, 0, none⟩) 1 1) 1 [.int .i64 y0, .string y1] rfl rfl (.inr ⟨_, 1, rfl, cells_new w5 [.int .i64 y0, .string y1] 71⟩) ?c2 ?c3 ?c4 ?c5 ?_)
      case c2 => intro u hu; simp at hu; rcases hu with rfl | rfl <;> rfl
      case c3 => unfold maxLen; omega
      case c4 => omega
      case c5 => have h9 := bWW.size; (try simp at h9); simp; omega
      intro v3 w3 o3 gr3
      have b3 : Below w.heap.size w w3 := (bWW.alloc bWW.size _).grown gr3 (by have h9 := bWW.size; (try simp at h9); simp; omega) (fun y h => (oW.lt y h).1)
      rw [← HCE.out] at o3
      clear gr3 oW
      go_wp2
      go_roundw
      case rel => exact ⟨f - 1, nn, m + 1, _, _, rfl, rfl, o3, FNh, k6, by omega, b3⟩
      case measure => simp [intOf]; omega
    | false =>
      have FN := HFin.out hG
      rw [hG] at qL
      clear hgo hG FNX HFin
      go_wp2_with fail
      rw [← HW0.out]
      refine (qL.out _ (Below.refl _ _)).mono ?_
      rintro e w5 ⟨rfl, hb5⟩
      have b5 := bW0.trans (hb5.mono bW0.size)
      have oW := own_later HO3.out hb5
      go_wp2
      go_ret2
      exact ⟨_, by rw [← (FN w5 oW).1]; rfl, (FN w5 oW).2.1, (FN w5 oW).2.2, b5⟩

end Go.Proofs.YtkfmpfbhhmmllaaGreat

/- VEntry: The helpers of the exact laws for slices of entries, a slice being one value. -/
namespace Go.Proofs.YtkfmpfbhhmmllaaGreat
open Go.RowKit
set_option linter.unusedVariables false
set_option maxRecDepth 100000

theorem szEntryS_v (v : Value) (d : List shEntry.D) (left : Int) (w : World) (hr : Reads (.sl shEntry) w [v] d) (h0 : 0 ≤ left) (h1 : left ≤ 1048576) :
    Calls Tryz.prog 19 #[v, .int .i64 left] w fun e w' => e = .returned (.int .i64 (szAns (Sh.sz (.sl shEntry) d) left)) ∧ Below w.heap.size w w' := by
  obtain ⟨a, c, rfl, _, _⟩ := reads_val hr
  exact szEntryS_any a _ c d left w hr h0 h1

theorem toEntryS_v (v : Value) (d : List shEntry.D) (w : World) (hr : Reads (.sl shEntry) w [v] d) (hs : Sh.sz (.sl shEntry) d ≤ 1048576) :
    Calls Tryz.prog 25 #[v] w fun e w' => ∃ v' F, e = .returned v' ∧ Own (.sl shEntry) w' w.heap.size [v'] d F ∧ F.Nodup ∧ Below w.heap.size w w' := by
  obtain ⟨a, c, rfl, _, _⟩ := reads_val hr
  refine (toEntryS_own a _ c d w hr hs).mono ?_
  rintro e w' ⟨g, F, rfl, ho, hn, hb⟩
  exact ⟨_, F, rfl, ho, hn, hb⟩

theorem eqEntryS_v (v1 v2 : Value) (d : List shEntry.D) (w : World) (h1 : Reads (.sl shEntry) w [v1] d) (h2 : Reads (.sl shEntry) w [v2] d) (hs : Sh.sz (.sl shEntry) d ≤ 1048576) :
    Calls Tryz.prog 14 #[v1, v2] w fun e w' => e = .returned (.bool true) ∧ Below w.heap.size w w' := by
  obtain ⟨a, c, rfl, _, _⟩ := reads_val h1
  obtain ⟨b, c2, rfl, _, _⟩ := reads_val h2
  exact eqEntryS_reads a b _ c c2 d w h1 h2 hs

theorem markEntryS_v (v : Value) (B : Nat) (k : Int) (kn : Nat) (d : List shEntry.D) (F : List Nat) (w : World) (hkn : k = kn) (ho : Own (.sl shEntry) w B [v] d F) (hnd : F.Nodup) (hk0 : 1 ≤ kn) (hk : kn + Sh.cnt (.sl shEntry) d ≤ 1000000000000) :
    Calls Tryz.prog 17 #[v, .int .i64 k] w fun e w' => e = .returned (.int .i64 ((kn + Sh.cnt (.sl shEntry) d : Nat) : Int)) ∧ Own (.sl shEntry) w' B [v] (Sh.mk (.sl shEntry) d kn) F ∧ Touch w w' F := by
  obtain ⟨a, c, rfl, _, _⟩ := own_val ho
  subst hkn
  exact markEntryS_own a _ c B kn d F w ho hnd hk0 hk

theorem heldEntryS_v (v : Value) (B : Nat) (k : Int) (kn : Nat) (d : List shEntry.D) (F : List Nat) (w : World) (hkn : k = kn) (ho : Own (.sl shEntry) w B [v] (Sh.mk (.sl shEntry) d kn) F) (hnd : F.Nodup) (hk0 : 1 ≤ kn) (hk : kn + Sh.cnt (.sl shEntry) d ≤ 1000000000000) :
    Calls Tryz.prog 18 #[v, .int .i64 k] w fun e w' => e = .returned (.int .i64 ((kn + Sh.cnt (.sl shEntry) d : Nat) : Int)) ∧ Below w.heap.size w w' := by
  obtain ⟨a, c, rfl, _, _⟩ := own_val ho
  subst hkn
  have e : (Sh.mk (.sl shEntry) d kn).length = d.length := mkRow_length _ _ _ _
  rw [e] at ho ⊢
  exact heldEntryS_own a _ c B kn d F w ho hnd hk0 hk

theorem wdS_Entry : Sh.wd (.sl shEntry) = 2 := rfl

theorem cntS_Entry (d : List shEntry.D) (h : Sh.sz (.sl shEntry) d ≤ 1048576) : Sh.cnt (.sl shEntry) d ≤ 1000000000 := by
  have h1 := Sh.cnt_le (.sl shEntry) d
  rw [wdS_Entry] at h1
  omega

end Go.Proofs.YtkfmpfbhhmmllaaGreat

/- LScan: The walk of the law FnExactScan over the contracts of its two functions. By program (lawgen3.py). -/
namespace Go.Proofs.YtkfmpfbhhmmllaaGreat
open Go.RowKit
set_option linter.unusedVariables false
set_option maxRecDepth 100000


end Go.Proofs.YtkfmpfbhhmmllaaGreat

/- WScan: The law FnExactScan over the contracts of its two functions. -/
namespace Go.Proofs.YtkfmpfbhhmmllaaGreat
open Go.RowKit
set_option linter.unusedVariables false
set_option maxRecDepth 100000

/-- What a list of entries holds. -/
def bulkE (l : List EntD) : Nat := (l.map fun x => 1 + ByteArray.size x.2.1).sum

theorem bulkE_snoc (l : List EntD) (x : EntD) : bulkE (l ++ [x]) = bulkE l + (1 + ByteArray.size x.2.1) := by simp [bulkE]

theorem bulkE_sz (l : List EntD) : Sh.sz (.sl shEntry) l = bulkE l := by
  show List.length (α := EntD) l + (List.map shEntry.sz l).sum = bulkE l
  induction l with
  | nil => rfl
  | cons a l ih =>
    have h3 : shEntry.sz a = ByteArray.size a.2.1 := sz_Entry a
    have e1 : bulkE (a :: l) = 1 + ByteArray.size a.2.1 + bulkE l := by simp [bulkE]
    have e2 : List.length (α := EntD) (a :: l) + (List.map shEntry.sz (a :: l)).sum = (List.length (α := EntD) l + 1) + (shEntry.sz a + (List.map shEntry.sz l).sum) := rfl
    refine e2.trans ?_
    have ih' : List.length (α := EntD) l + (List.map shEntry.sz l).sum = bulkE l := ih
    omega

/-- Where the code is 0 the next place is behind the text. -/
theorem fr_next (zs : List Int) (hz : Byt zs) (p : Nat) (h : (frAns zs (p : Int)).2.2.2 = 0) : (frAns zs (p : Int)).2.2.1 = ((p + 10 + (frAns zs (p : Int)).2.1.size : Nat) : Int) ∧ p + 10 + (frAns zs (p : Int)).2.1.size ≤ zs.length := by
  unfold frAns at h ⊢
  have eP : ((p : Int)).toNat = p := by omega
  rw [eP] at h ⊢
  have hs := gnum2_bd zs hz p
  split at h
  · simp at h
  rename_i h1
  rw [if_neg h1]
  split at h
  · simp at h
  rename_i h2
  rw [if_neg h2]
  split at h
  · simp at h
  rename_i h3
  rw [if_neg h3]
  split at h
  · simp at h
  rename_i h4
  rw [if_neg h4]
  split at h
  · simp at h
  rename_i h5
  rw [if_neg h5]
  split at h
  · rename_i h6
    rw [if_pos h6]
    have e : (strOfNums (cutL zs (p + 10) (gnum zs p 2).toNat)).size = (gnum zs p 2).toNat := by rw [strOfNums_size, cutL_len _ _ _ (by omega)]
    refine ⟨?_, ?_⟩
    · show (p : Int) + 10 + gnum zs p 2 = ((p + 10 + (strOfNums (cutL zs (p + 10) (gnum zs p 2).toNat)).size : Nat) : Int)
      rw [e]; omega
    · show p + 10 + (strOfNums (cutL zs (p + 10) (gnum zs p 2).toNat)).size ≤ _
      rw [e]; omega
  · simp at h

theorem scan_bulk (zs : List Int) (hz : Byt zs) : ∀ (f : Nat) (acc : List EntD) (p : Nat), p ≤ zs.length → bulkE acc ≤ p → bulkE (scanL zs f acc p).1 ≤ zs.length
  | 0, acc, p, h1, h2 => by show bulkE acc ≤ _; omega
  | f + 1, acc, p, h1, h2 => by
    cases hg : goesOn zs acc p with
    | false => rw [scanL_end zs (f + 1) acc p hg]; show bulkE acc ≤ _; omega
    | true =>
      rw [scanL_on zs (f + 1) acc p hg (by omega)]
      have hc : (frAns zs (p : Int)).2.2.2 = 0 := by
        unfold goesOn at hg
        simp only [Bool.and_eq_true, decide_eq_true_eq] at hg
        exact hg.1
      have hn := fr_next zs hz p hc
      have e : ((frAns zs (p : Int)).2.2.1).toNat = p + 10 + (frAns zs (p : Int)).2.1.size := by rw [hn.1]; omega
      refine scan_bulk zs hz f _ _ ?_ ?_
      · omega
      · rw [bulkE_snoc, e]
        show bulkE acc + (1 + (frAns zs (p : Int)).2.1.size) ≤ _
        omega

end Go.Proofs.YtkfmpfbhhmmllaaGreat
