/-
  Joined: DOkI, DOkE, MkLink.
-/
import Derived.Test.YtkaegbhmeonjfaaGreatJ6FnExactDiskCrash
import Derived.Test.YtkaegbhmeonjfaaGreatJ7FnExactDiskCrash
import Derived.Test.YtkaegbhmeonjfaaGreatJ0FnExactDiskCrash
import Derived.Test.YtkaegbhmeonjfaaGreatJ1FnExactDiskCrash
/- DOkI: DiskOk of the program. -/
namespace Go.Proofs.YtkaegbhmeonjfaaGreat
open Go.RowKit
set_option linter.unusedVariables false
set_option maxRecDepth 100000
set_option linter.unusedSimpArgs false

def leB (a b : Int) : Bool := decide (a ≤ b)

def implOkB (d : shDisk.D) : Bool :=
  limB d.1 d.2.1 d.2.2.1 && nodesIB d.2.2.2.1 d.2.2.1 && keptIB d.2.2.2.2.1 && turnsIB d.2.2.2.2.1 d.2.2.2.2.2.1 && decide (sortN (idsL d.2.2.2.2.1 d.2.2.2.2.2.1) = nodeIds d.2.2.2.1) && leB (used d) d.1

set_option maxRecDepth 100000 in
set_option maxHeartbeats 8000000 in
theorem implOk_ok (cs : List Value) (d : shDisk.D) (w : World) (hr : Reads shDisk w cs d) (hs : shDisk.sz d ≤ 1048576) :
    Calls Tryz.prog 39 #[.agg cs.toArray] w fun e w' => e = .returned (.bool (implOkB d)) ∧ Below w.heap.size w w' := by
  obtain ⟨a3, n3, c3, a4, n4, c4, a5, n5, c5, rfl, r3, r4, r5⟩ := open_Disk hr
  obtain ⟨x0, e0⟩ : ∃ x : Int, x = d.1 := ⟨_, rfl⟩
  obtain ⟨x1, e1⟩ : ∃ x : Int, x = d.2.1 := ⟨_, rfl⟩
  obtain ⟨x2, e2⟩ : ∃ x : Int, x = d.2.2.1 := ⟨_, rfl⟩
  obtain ⟨U, hU⟩ : ∃ U, U = used d := ⟨_, rfl⟩
  obtain ⟨B1, hB1⟩ : ∃ B, B = limB d.1 d.2.1 d.2.2.1 := ⟨_, rfl⟩
  obtain ⟨B2, hB2⟩ : ∃ B, B = nodesIB d.2.2.2.1 d.2.2.1 := ⟨_, rfl⟩
  obtain ⟨B3, hB3⟩ : ∃ B, B = keptIB d.2.2.2.2.1 := ⟨_, rfl⟩
  obtain ⟨B4, hB4⟩ : ∃ B, B = turnsIB d.2.2.2.2.1 d.2.2.2.2.2.1 := ⟨_, rfl⟩
  obtain ⟨B5, hB5⟩ : ∃ B, B = decide (sortN (idsL d.2.2.2.2.1 d.2.2.2.2.2.1) = nodeIds d.2.2.2.1) := ⟨_, rfl⟩
  have HV : Hid (implOkB d = (B1 && B2 && B3 && B4 && B5 && decide (U ≤ x0))) := by show _ = _; unfold implOkB; rw [hB1, hB2, hB3, hB4, hB5, hU, e0]; rfl
  have hn45 : n4 + n5 ≤ 1048576 := by
    have h := hs
    rw [sz_Disk] at h
    have s4 : n4 ≤ Sh.sz (.sl shLink) d.2.2.2.2.1 := by rw [← (reads_len r4).1]; exact Nat.le_add_right _ _
    have s5 : n5 ≤ Sh.sz (.sl shTurn) d.2.2.2.2.2.1 := by rw [← (reads_len r5).1]; exact Nat.le_add_right _ _
    omega
  have q1 : Hid (∀ w', Below w.heap.size w w' → Calls Tryz.prog 84 #[.agg #[.int .i64 d.1, .int .i64 d.2.1, .int .i64 d.2.2.1, .slice a3 n3 c3, .slice a4 n4 c4, .slice a5 n5 c5]] w' fun e w'' => e = .returned (.bool B1) ∧ Below w'.heap.size w' w'') := fun w' hb => by rw [hB1]; exact limitsOk_ok _ _ _ _ _ _ _ _ _ _ _ _ w'
  have q2 : Hid (∀ w', Below w.heap.size w w' → Calls Tryz.prog 85 #[.slice a3 n3 c3, .int .i64 d.2.2.1] w' fun e w'' => e = .returned (.bool B2) ∧ Below w'.heap.size w' w'') := fun w' hb => by rw [hB2]; exact nodesOk_ok a3 n3 c3 _ _ w' (r3.later hb)
  have q3 : Hid (∀ w', Below w.heap.size w w' → Calls Tryz.prog 86 #[.slice a4 n4 c4] w' fun e w'' => e = .returned (.bool B3) ∧ Below w'.heap.size w' w'') := fun w' hb => by rw [hB3]; exact keptOk_ok a4 n4 c4 _ w' (r4.later hb)
  have q4 : Hid (∀ w', Below w.heap.size w w' → Calls Tryz.prog 87 #[.slice a4 n4 c4, .slice a5 n5 c5] w' fun e w'' => e = .returned (.bool B4) ∧ Below w'.heap.size w' w'') := fun w' hb => by rw [hB4]; exact turnsOk_ok a4 n4 c4 _ a5 n5 c5 _ w' (r4.later hb) (r5.later hb) hn45
  have q5 : Hid (∀ w', Below w.heap.size w w' → Calls Tryz.prog 88 #[.agg #[.int .i64 d.1, .int .i64 d.2.1, .int .i64 d.2.2.1, .slice a3 n3 c3, .slice a4 n4 c4, .slice a5 n5 c5]] w' fun e w'' => e = .returned (.bool B5) ∧ Below w'.heap.size w' w'') := fun w' hb => by rw [hB5]; exact idsOk_ok _ d w' (hr.later hb) hs
  have q6 : Hid (∀ w', Below w.heap.size w w' → Calls Tryz.prog 89 #[.agg #[.int .i64 d.1, .int .i64 d.2.1, .int .i64 d.2.2.1, .slice a3 n3 c3, .slice a4 n4 c4, .slice a5 n5 c5]] w' fun e w'' => e = .returned (.int .i64 U) ∧ Below w'.heap.size w' w'') := fun w' hb => by rw [hU]; exact implUsed_ok _ d w' (hr.later hb) hs
  rw [← e0, ← e1, ← e2] at q1 q5 q6 ⊢
  rw [← e2] at q2
  obtain ⟨V, hV⟩ : ∃ V, V = implOkB d := ⟨_, rfl⟩
  rw [← hV] at HV ⊢
  obtain ⟨W0, hW0⟩ : ∃ W0, W0 = w.alloc (.cells #[.int .i64 x0, .int .i64 x1, .int .i64 x2, .slice a3 n3 c3, .slice a4 n4 c4, .slice a5 n5 c5] 33) := ⟨_, rfl⟩
  have bW0 : Below w.heap.size w W0 := by rw [hW0]; exact (Below.refl _ _).alloc (Nat.le_refl _) _
  have hbox : W0.heap[w.heap.size]? = some (.cells #[.int .i64 x0, .int .i64 x1, .int .i64 x2, .slice a3 n3 c3, .slice a4 n4 c4, .slice a5 n5 c5] 33 (0, 0)) := by rw [hW0]; exact heap_alloc_new w _
  have zlt0 : w.heap.size < W0.heap.size := by rw [hW0]; simp
  have HW0 : Hid (W0 = w.alloc (.cells #[.int .i64 x0, .int .i64 x1, .int .i64 x2, .slice a3 n3 c3, .slice a4 n4 c4, .slice a5 n5 c5] 33)) := hW0
  have BX : Hid (∀ w', Below W0.heap.size W0 w' → w'.cell? ⟨w.heap.size, 0, none⟩ = some (.int .i64 x0) ∧ w'.cell? ⟨w.heap.size, 1, none⟩ = some (.int .i64 x1) ∧ w'.cell? ⟨w.heap.size, 2, none⟩ = some (.int .i64 x2) ∧ w'.cell? ⟨w.heap.size, 3, none⟩ = some (.slice a3 n3 c3) ∧ w'.cell? ⟨w.heap.size, 4, none⟩ = some (.slice a4 n4 c4) ∧ w'.cell? ⟨w.heap.size, 5, none⟩ = some (.slice a5 n5 c5)) := fun w' h' => by
    have i := (h'.block _ zlt0).trans hbox
    exact ⟨box_cell i rfl, box_cell i rfl, box_cell i rfl, box_cell i rfl, box_cell i rfl, box_cell i rfl⟩
  have bD0 : Below W0.heap.size W0 W0.drew := (Below.refl _ _).drew
  obtain ⟨v0, v1, v2, v3, v4, v5⟩ := BX.out W0 (Below.refl _ _)
  clear hr hs r3 r4 r5 e0 e1 e2 hU hB1 hB2 hB3 hB4 hB5 hV hW0 hbox
  cases h1 : B1 with
  | false =>
    have EE : Hid (V = false) := by show _ = _; rw [HV.out, h1]; simp
    clear HV
    subst h1
    go_enter Tryz.func39, Tryz.ntmps39
    go_wp2_with fail
    rw [← HW0.out]
    refine wp_region_held_drew (S := (fun w' => w'.cell? ⟨w.heap.size, 0, none⟩ = some (.int .i64 x0) ∧ w'.cell? ⟨w.heap.size, 1, none⟩ = some (.int .i64 x1) ∧ w'.cell? ⟨w.heap.size, 2, none⟩ = some (.int .i64 x2) ∧ w'.cell? ⟨w.heap.size, 3, none⟩ = some (.slice a3 n3 c3) ∧ w'.cell? ⟨w.heap.size, 4, none⟩ = some (.slice a4 n4 c4) ∧ w'.cell? ⟨w.heap.size, 5, none⟩ = some (.slice a5 n5 c5))) (by kernel_rfl) ⟨v0, v1, v2, v3, v4, v5⟩ (fun hHeld => ?_)
    refine wpAnyH_take (i := 0) (v := .agg #[.int .i64 x0, .int .i64 x1, .int .i64 x2, .slice a3 n3 c3, .slice a4 n4 c4, .slice a5 n5 c5]) rfl (by kernel_rfl) (by kernel_rfl) (by kernel_rfl) (fun _ _ _ h => h) (Or.inl ⟨by kernel_rfl, ?_⟩) (by assumption) ?_
    · intro w9 hSw; (try dsimp only at hSw); go_simp
    simp only [Act.put, List.setIfInBounds_toArray, List.set_cons_zero, List.set_cons_succ]
    refine wpAnyH_ready (rs := [1]) (by kernel_rfl) (by simp) ?_
    refine AllReadyH.cons rfl (fun K hK => ?_) AllReadyH.nil
    go_simp
    refine (q1.out _ (bW0.trans (Below.mono bD0 bW0.size))).mono ?_
    rintro e w1 ⟨rfl, hb1⟩
    have d1 : Below W0.heap.size W0 w1 := bD0.trans (hb1.mono bD0.size)
    clear hb1
    go_wp2_with fail
    refine hK.out _ _ (BX.out w1 d1) (fun hHeld1 => ?_)
    clear hK
    refine wpAnyH_take (i := 2) (v := .bool false) rfl (by kernel_rfl) (by kernel_rfl) (by kernel_rfl) (fun _ _ _ h => h) (Or.inl ⟨by kernel_rfl, ?_⟩) (by assumption) ?_
    · intro w9 hSw; (try dsimp only at hSw); go_simp
    simp only [Act.put, List.setIfInBounds_toArray, List.set_cons_zero, List.set_cons_succ]
    refine wpAnyH_take (i := 3) (v := undef) rfl (by kernel_rfl) (by kernel_rfl) (by kernel_rfl) (fun _ _ _ h => h) (Or.inr ⟨by kernel_rfl, rfl⟩) (by assumption) ?_
    simp only [Act.put, List.setIfInBounds_toArray, List.set_cons_zero, List.set_cons_succ]
    refine wpAnyH_take (i := 4) (v := undef) rfl (by kernel_rfl) (by kernel_rfl) (by kernel_rfl) (fun _ _ _ h => h) (Or.inr ⟨by kernel_rfl, rfl⟩) (by assumption) ?_
    simp only [Act.put, List.setIfInBounds_toArray, List.set_cons_zero, List.set_cons_succ]
    refine wpAnyH_take (i := 5) (v := undef) rfl (by kernel_rfl) (by kernel_rfl) (by kernel_rfl) (fun _ _ _ h => h) (Or.inr ⟨by kernel_rfl, rfl⟩) (by assumption) ?_
    simp only [Act.put, List.setIfInBounds_toArray, List.set_cons_zero, List.set_cons_succ]
    refine wpAnyH_take (i := 6) (v := undef) rfl (by kernel_rfl) (by kernel_rfl) (by kernel_rfl) (fun _ _ _ h => h) (Or.inr ⟨by kernel_rfl, rfl⟩) (by assumption) ?_
    simp only [Act.put, List.setIfInBounds_toArray, List.set_cons_zero, List.set_cons_succ]
    refine wpAnyH_take (i := 7) (v := undef) rfl (by kernel_rfl) (by kernel_rfl) (by kernel_rfl) (fun _ _ _ h => h) (Or.inr ⟨by kernel_rfl, rfl⟩) (by assumption) ?_
    simp only [Act.put, List.setIfInBounds_toArray, List.set_cons_zero, List.set_cons_succ]
    refine wpAnyH_take (i := 8) (v := .bool false) rfl (by kernel_rfl) (by kernel_rfl) (by kernel_rfl) (fun _ _ _ h => h) (Or.inl ⟨by kernel_rfl, ?_⟩) (by assumption) ?_
    · intro w9 hSw; (try dsimp only at hSw); go_simp
    simp only [Act.put, List.setIfInBounds_toArray, List.set_cons_zero, List.set_cons_succ]
    refine wpAnyH_take (i := 9) (v := .bool false) rfl (by kernel_rfl) (by kernel_rfl) (by kernel_rfl) (fun _ _ _ h => h) (Or.inl ⟨by kernel_rfl, ?_⟩) (by assumption) ?_
    · intro w9 hSw; (try dsimp only at hSw); go_simp
    simp only [Act.put, List.setIfInBounds_toArray, List.set_cons_zero, List.set_cons_succ]
    refine wpAnyH_take (i := 10) (v := undef) rfl (by kernel_rfl) (by kernel_rfl) (by kernel_rfl) (fun _ _ _ h => h) (Or.inr ⟨by kernel_rfl, rfl⟩) (by assumption) ?_
    simp only [Act.put, List.setIfInBounds_toArray, List.set_cons_zero, List.set_cons_succ]
    refine wpAnyH_take (i := 11) (v := undef) rfl (by kernel_rfl) (by kernel_rfl) (by kernel_rfl) (fun _ _ _ h => h) (Or.inr ⟨by kernel_rfl, rfl⟩) (by assumption) ?_
    simp only [Act.put, List.setIfInBounds_toArray, List.set_cons_zero, List.set_cons_succ]
    refine wpAnyH_take (i := 12) (v := undef) rfl (by kernel_rfl) (by kernel_rfl) (by kernel_rfl) (fun _ _ _ h => h) (Or.inr ⟨by kernel_rfl, rfl⟩) (by assumption) ?_
    simp only [Act.put, List.setIfInBounds_toArray, List.set_cons_zero, List.set_cons_succ]
    refine wpAnyH_take (i := 13) (v := .bool false) rfl (by kernel_rfl) (by kernel_rfl) (by kernel_rfl) (fun _ _ _ h => h) (Or.inl ⟨by kernel_rfl, ?_⟩) (by assumption) ?_
    · intro w9 hSw; (try dsimp only at hSw); go_simp
    simp only [Act.put, List.setIfInBounds_toArray, List.set_cons_zero, List.set_cons_succ]
    refine wpAnyH_take (i := 14) (v := .bool false) rfl (by kernel_rfl) (by kernel_rfl) (by kernel_rfl) (fun _ _ _ h => h) (Or.inl ⟨by kernel_rfl, ?_⟩) (by assumption) ?_
    · intro w9 hSw; (try dsimp only at hSw); go_simp
    simp only [Act.put, List.setIfInBounds_toArray, List.set_cons_zero, List.set_cons_succ]
    refine wpAnyH_take (i := 15) (v := undef) rfl (by kernel_rfl) (by kernel_rfl) (by kernel_rfl) (fun _ _ _ h => h) (Or.inr ⟨by kernel_rfl, rfl⟩) (by assumption) ?_
    simp only [Act.put, List.setIfInBounds_toArray, List.set_cons_zero, List.set_cons_succ]
    refine wpAnyH_take (i := 16) (v := undef) rfl (by kernel_rfl) (by kernel_rfl) (by kernel_rfl) (fun _ _ _ h => h) (Or.inr ⟨by kernel_rfl, rfl⟩) (by assumption) ?_
    simp only [Act.put, List.setIfInBounds_toArray, List.set_cons_zero, List.set_cons_succ]
    refine wpAnyH_take (i := 17) (v := undef) rfl (by kernel_rfl) (by kernel_rfl) (by kernel_rfl) (fun _ _ _ h => h) (Or.inr ⟨by kernel_rfl, rfl⟩) (by assumption) ?_
    simp only [Act.put, List.setIfInBounds_toArray, List.set_cons_zero, List.set_cons_succ]
    refine wpAnyH_take (i := 18) (v := undef) rfl (by kernel_rfl) (by kernel_rfl) (by kernel_rfl) (fun _ _ _ h => h) (Or.inr ⟨by kernel_rfl, rfl⟩) (by assumption) ?_
    simp only [Act.put, List.setIfInBounds_toArray, List.set_cons_zero, List.set_cons_succ]
    refine wpAnyH_take (i := 19) (v := undef) rfl (by kernel_rfl) (by kernel_rfl) (by kernel_rfl) (fun _ _ _ h => h) (Or.inr ⟨by kernel_rfl, rfl⟩) (by assumption) ?_
    simp only [Act.put, List.setIfInBounds_toArray, List.set_cons_zero, List.set_cons_succ]
    refine wpAnyH_take (i := 20) (v := .bool false) rfl (by kernel_rfl) (by kernel_rfl) (by kernel_rfl) (fun _ _ _ h => h) (Or.inl ⟨by kernel_rfl, ?_⟩) (by assumption) ?_
    · intro w9 hSw; (try dsimp only at hSw); go_simp
    simp only [Act.put, List.setIfInBounds_toArray, List.set_cons_zero, List.set_cons_succ]
    refine wpAnyH_take (i := 21) (v := .bool false) rfl (by kernel_rfl) (by kernel_rfl) (by kernel_rfl) (fun _ _ _ h => h) (Or.inl ⟨by kernel_rfl, ?_⟩) (by assumption) ?_
    · intro w9 hSw; (try dsimp only at hSw); go_simp
    simp only [Act.put, List.setIfInBounds_toArray, List.set_cons_zero, List.set_cons_succ]
    refine wpAnyH_take (i := 22) (v := undef) rfl (by kernel_rfl) (by kernel_rfl) (by kernel_rfl) (fun _ _ _ h => h) (Or.inr ⟨by kernel_rfl, rfl⟩) (by assumption) ?_
    simp only [Act.put, List.setIfInBounds_toArray, List.set_cons_zero, List.set_cons_succ]
    refine wpAnyH_take (i := 23) (v := undef) rfl (by kernel_rfl) (by kernel_rfl) (by kernel_rfl) (fun _ _ _ h => h) (Or.inr ⟨by kernel_rfl, rfl⟩) (by assumption) ?_
    simp only [Act.put, List.setIfInBounds_toArray, List.set_cons_zero, List.set_cons_succ]
    refine wpAnyH_take (i := 24) (v := .bool false) rfl (by kernel_rfl) (by kernel_rfl) (by kernel_rfl) (fun _ _ _ h => h) (Or.inl ⟨by kernel_rfl, ?_⟩) (by assumption) ?_
    · intro w9 hSw; (try dsimp only at hSw); go_simp
    simp only [Act.put, List.setIfInBounds_toArray, List.set_cons_zero, List.set_cons_succ]
    refine wpAnyH_take (i := 25) (v := .bool false) rfl (by kernel_rfl) (by kernel_rfl) (by kernel_rfl) (fun _ _ _ h => h) (Or.inl ⟨by kernel_rfl, ?_⟩) (by assumption) ?_
    · intro w9 hSw; (try dsimp only at hSw); go_simp
    simp only [Act.put, List.setIfInBounds_toArray, List.set_cons_zero, List.set_cons_succ]
    refine wpAnyH_take (i := 26) (v := undef) rfl (by kernel_rfl) (by kernel_rfl) (by kernel_rfl) (fun _ _ _ h => h) (Or.inr ⟨by kernel_rfl, rfl⟩) (by assumption) ?_
    simp only [Act.put, List.setIfInBounds_toArray, List.set_cons_zero, List.set_cons_succ]
    refine wpAnyH_take (i := 28) (v := undef) rfl (by kernel_rfl) (by kernel_rfl) (by kernel_rfl) (fun _ _ _ h => h) (Or.inr ⟨by kernel_rfl, rfl⟩) (by assumption) ?_
    simp only [Act.put, List.setIfInBounds_toArray, List.set_cons_zero, List.set_cons_succ]
    refine wpAnyH_take (i := 29) (v := undef) rfl (by kernel_rfl) (by kernel_rfl) (by kernel_rfl) (fun _ _ _ h => h) (Or.inr ⟨by kernel_rfl, rfl⟩) (by assumption) ?_
    simp only [Act.put, List.setIfInBounds_toArray, List.set_cons_zero, List.set_cons_succ]
    refine wpAnyH_take (i := 27) (v := undef) rfl (by kernel_rfl) (by kernel_rfl) (by kernel_rfl) (fun _ _ _ h => h) (Or.inr ⟨by kernel_rfl, rfl⟩) (by assumption) ?_
    simp only [Act.put, List.setIfInBounds_toArray, List.set_cons_zero, List.set_cons_succ]
    refine wpAnyH_take (i := 30) (v := undef) rfl (by kernel_rfl) (by kernel_rfl) (by kernel_rfl) (fun _ _ _ h => h) (Or.inr ⟨by kernel_rfl, rfl⟩) (by assumption) ?_
    simp only [Act.put, List.setIfInBounds_toArray, List.set_cons_zero, List.set_cons_succ]
    refine wpAnyH_take (i := 31) (v := .bool false) rfl (by kernel_rfl) (by kernel_rfl) (by kernel_rfl) (fun _ _ _ h => h) (Or.inl ⟨by kernel_rfl, ?_⟩) (by assumption) ?_
    · intro w9 hSw; (try dsimp only at hSw); go_simp
    simp only [Act.put, List.getElem_toArray, List.getElem_cons_succ, List.getElem_cons_zero, List.setIfInBounds_toArray, List.set_cons_zero, List.set_cons_succ]
    refine wpAnyH_take (i := 32) (v := .bool false) rfl (by kernel_rfl) (by kernel_rfl) (by kernel_rfl) (fun _ _ _ h => h) (Or.inl ⟨by kernel_rfl, ?_⟩) (by assumption) ?_
    · intro w9 hSw; (try dsimp only at hSw); go_simp
    simp only [Act.put, List.getElem_toArray, List.getElem_cons_succ, List.getElem_cons_zero, List.setIfInBounds_toArray, List.set_cons_zero, List.set_cons_succ]
    refine wpAnyH_done (by kernel_rfl) ?_ _
    have bE := bW0.trans (d1.mono bW0.size)
    go_wp2
    go_ret
    exact ⟨by rw [EE.out]; rfl, bE⟩
  | true =>
  subst h1
  cases h2 : B2 with
  | false =>
    have EE : Hid (V = false) := by show _ = _; rw [HV.out, h2]; simp
    clear HV
    subst h2
    go_enter Tryz.func39, Tryz.ntmps39
    go_wp2_with fail
    rw [← HW0.out]
    refine wp_region_held_drew (S := (fun w' => w'.cell? ⟨w.heap.size, 0, none⟩ = some (.int .i64 x0) ∧ w'.cell? ⟨w.heap.size, 1, none⟩ = some (.int .i64 x1) ∧ w'.cell? ⟨w.heap.size, 2, none⟩ = some (.int .i64 x2) ∧ w'.cell? ⟨w.heap.size, 3, none⟩ = some (.slice a3 n3 c3) ∧ w'.cell? ⟨w.heap.size, 4, none⟩ = some (.slice a4 n4 c4) ∧ w'.cell? ⟨w.heap.size, 5, none⟩ = some (.slice a5 n5 c5))) (by kernel_rfl) ⟨v0, v1, v2, v3, v4, v5⟩ (fun hHeld => ?_)
    refine wpAnyH_take (i := 0) (v := .agg #[.int .i64 x0, .int .i64 x1, .int .i64 x2, .slice a3 n3 c3, .slice a4 n4 c4, .slice a5 n5 c5]) rfl (by kernel_rfl) (by kernel_rfl) (by kernel_rfl) (fun _ _ _ h => h) (Or.inl ⟨by kernel_rfl, ?_⟩) (by assumption) ?_
    · intro w9 hSw; (try dsimp only at hSw); go_simp
    simp only [Act.put, List.setIfInBounds_toArray, List.set_cons_zero, List.set_cons_succ]
    refine wpAnyH_ready (rs := [1]) (by kernel_rfl) (by simp) ?_
    refine AllReadyH.cons rfl (fun K hK => ?_) AllReadyH.nil
    go_simp
    refine (q1.out _ (bW0.trans (Below.mono bD0 bW0.size))).mono ?_
    rintro e w1 ⟨rfl, hb1⟩
    have d1 : Below W0.heap.size W0 w1 := bD0.trans (hb1.mono bD0.size)
    clear hb1
    go_wp2_with fail
    refine hK.out _ _ (BX.out w1 d1) (fun hHeld1 => ?_)
    clear hK
    refine wpAnyH_take (i := 2) (v := .bool true) rfl (by kernel_rfl) (by kernel_rfl) (by kernel_rfl) (fun _ _ _ h => h) (Or.inl ⟨by kernel_rfl, ?_⟩) (by assumption) ?_
    · intro w9 hSw; (try dsimp only at hSw); go_simp
    simp only [Act.put, List.setIfInBounds_toArray, List.set_cons_zero, List.set_cons_succ]
    refine wpAnyH_take (i := 3) (v := .pointer (some ⟨w.heap.size, 3, none⟩)) rfl (by kernel_rfl) (by kernel_rfl) (by kernel_rfl) (fun _ _ _ h => h) (Or.inl ⟨by kernel_rfl, ?_⟩) (by assumption) ?_
    · intro w9 hSw; (try dsimp only at hSw); go_simp
    simp only [Act.put, List.setIfInBounds_toArray, List.set_cons_zero, List.set_cons_succ]
    refine wpAnyH_take (i := 4) (v := .slice a3 n3 c3) rfl (by kernel_rfl) (by kernel_rfl) (by kernel_rfl) (fun _ _ _ h => h) (Or.inl ⟨by kernel_rfl, ?_⟩) (by assumption) ?_
    · intro w9 hSw; (try dsimp only at hSw); go_simp
    simp only [Act.put, List.setIfInBounds_toArray, List.set_cons_zero, List.set_cons_succ]
    refine wpAnyH_take (i := 5) (v := .pointer (some ⟨w.heap.size, 2, none⟩)) rfl (by kernel_rfl) (by kernel_rfl) (by kernel_rfl) (fun _ _ _ h => h) (Or.inl ⟨by kernel_rfl, ?_⟩) (by assumption) ?_
    · intro w9 hSw; (try dsimp only at hSw); go_simp
    simp only [Act.put, List.setIfInBounds_toArray, List.set_cons_zero, List.set_cons_succ]
    refine wpAnyH_take (i := 6) (v := .int .i64 x2) rfl (by kernel_rfl) (by kernel_rfl) (by kernel_rfl) (fun _ _ _ h => h) (Or.inl ⟨by kernel_rfl, ?_⟩) (by assumption) ?_
    · intro w9 hSw; (try dsimp only at hSw); go_simp
    simp only [Act.put, List.setIfInBounds_toArray, List.set_cons_zero, List.set_cons_succ]
    refine wpAnyH_ready (rs := [7]) (by kernel_rfl) (by simp) ?_
    refine AllReadyH.cons rfl (fun K hK => ?_) AllReadyH.nil
    go_simp
    refine (q2.out _ (bW0.trans (Below.mono d1 bW0.size))).mono ?_
    rintro e w2 ⟨rfl, hb2⟩
    have d2 : Below W0.heap.size W0 w2 := d1.trans (hb2.mono d1.size)
    clear hb2
    go_wp2_with fail
    refine hK.out _ _ (BX.out w2 d2) (fun hHeld2 => ?_)
    clear hK
    refine wpAnyH_take (i := 8) (v := .bool false) rfl (by kernel_rfl) (by kernel_rfl) (by kernel_rfl) (fun _ _ _ h => h) (Or.inl ⟨by kernel_rfl, ?_⟩) (by assumption) ?_
    · intro w9 hSw; (try dsimp only at hSw); go_simp
    simp only [Act.put, List.setIfInBounds_toArray, List.set_cons_zero, List.set_cons_succ]
    refine wpAnyH_take (i := 9) (v := .bool false) rfl (by kernel_rfl) (by kernel_rfl) (by kernel_rfl) (fun _ _ _ h => h) (Or.inl ⟨by kernel_rfl, ?_⟩) (by assumption) ?_
    · intro w9 hSw; (try dsimp only at hSw); go_simp
    simp only [Act.put, List.setIfInBounds_toArray, List.set_cons_zero, List.set_cons_succ]
    refine wpAnyH_take (i := 10) (v := undef) rfl (by kernel_rfl) (by kernel_rfl) (by kernel_rfl) (fun _ _ _ h => h) (Or.inr ⟨by kernel_rfl, rfl⟩) (by assumption) ?_
    simp only [Act.put, List.setIfInBounds_toArray, List.set_cons_zero, List.set_cons_succ]
    refine wpAnyH_take (i := 11) (v := undef) rfl (by kernel_rfl) (by kernel_rfl) (by kernel_rfl) (fun _ _ _ h => h) (Or.inr ⟨by kernel_rfl, rfl⟩) (by assumption) ?_
    simp only [Act.put, List.setIfInBounds_toArray, List.set_cons_zero, List.set_cons_succ]
    refine wpAnyH_take (i := 12) (v := undef) rfl (by kernel_rfl) (by kernel_rfl) (by kernel_rfl) (fun _ _ _ h => h) (Or.inr ⟨by kernel_rfl, rfl⟩) (by assumption) ?_
    simp only [Act.put, List.setIfInBounds_toArray, List.set_cons_zero, List.set_cons_succ]
    refine wpAnyH_take (i := 13) (v := .bool false) rfl (by kernel_rfl) (by kernel_rfl) (by kernel_rfl) (fun _ _ _ h => h) (Or.inl ⟨by kernel_rfl, ?_⟩) (by assumption) ?_
    · intro w9 hSw; (try dsimp only at hSw); go_simp
    simp only [Act.put, List.setIfInBounds_toArray, List.set_cons_zero, List.set_cons_succ]
    refine wpAnyH_take (i := 14) (v := .bool false) rfl (by kernel_rfl) (by kernel_rfl) (by kernel_rfl) (fun _ _ _ h => h) (Or.inl ⟨by kernel_rfl, ?_⟩) (by assumption) ?_
    · intro w9 hSw; (try dsimp only at hSw); go_simp
    simp only [Act.put, List.setIfInBounds_toArray, List.set_cons_zero, List.set_cons_succ]
    refine wpAnyH_take (i := 15) (v := undef) rfl (by kernel_rfl) (by kernel_rfl) (by kernel_rfl) (fun _ _ _ h => h) (Or.inr ⟨by kernel_rfl, rfl⟩) (by assumption) ?_
    simp only [Act.put, List.setIfInBounds_toArray, List.set_cons_zero, List.set_cons_succ]
    refine wpAnyH_take (i := 16) (v := undef) rfl (by kernel_rfl) (by kernel_rfl) (by kernel_rfl) (fun _ _ _ h => h) (Or.inr ⟨by kernel_rfl, rfl⟩) (by assumption) ?_
    simp only [Act.put, List.setIfInBounds_toArray, List.set_cons_zero, List.set_cons_succ]
    refine wpAnyH_take (i := 17) (v := undef) rfl (by kernel_rfl) (by kernel_rfl) (by kernel_rfl) (fun _ _ _ h => h) (Or.inr ⟨by kernel_rfl, rfl⟩) (by assumption) ?_
    simp only [Act.put, List.setIfInBounds_toArray, List.set_cons_zero, List.set_cons_succ]
    refine wpAnyH_take (i := 18) (v := undef) rfl (by kernel_rfl) (by kernel_rfl) (by kernel_rfl) (fun _ _ _ h => h) (Or.inr ⟨by kernel_rfl, rfl⟩) (by assumption) ?_
    simp only [Act.put, List.setIfInBounds_toArray, List.set_cons_zero, List.set_cons_succ]
    refine wpAnyH_take (i := 19) (v := undef) rfl (by kernel_rfl) (by kernel_rfl) (by kernel_rfl) (fun _ _ _ h => h) (Or.inr ⟨by kernel_rfl, rfl⟩) (by assumption) ?_
    simp only [Act.put, List.setIfInBounds_toArray, List.set_cons_zero, List.set_cons_succ]
    refine wpAnyH_take (i := 20) (v := .bool false) rfl (by kernel_rfl) (by kernel_rfl) (by kernel_rfl) (fun _ _ _ h => h) (Or.inl ⟨by kernel_rfl, ?_⟩) (by assumption) ?_
    · intro w9 hSw; (try dsimp only at hSw); go_simp
    simp only [Act.put, List.setIfInBounds_toArray, List.set_cons_zero, List.set_cons_succ]
    refine wpAnyH_take (i := 21) (v := .bool false) rfl (by kernel_rfl) (by kernel_rfl) (by kernel_rfl) (fun _ _ _ h => h) (Or.inl ⟨by kernel_rfl, ?_⟩) (by assumption) ?_
    · intro w9 hSw; (try dsimp only at hSw); go_simp
    simp only [Act.put, List.setIfInBounds_toArray, List.set_cons_zero, List.set_cons_succ]
    refine wpAnyH_take (i := 22) (v := undef) rfl (by kernel_rfl) (by kernel_rfl) (by kernel_rfl) (fun _ _ _ h => h) (Or.inr ⟨by kernel_rfl, rfl⟩) (by assumption) ?_
    simp only [Act.put, List.setIfInBounds_toArray, List.set_cons_zero, List.set_cons_succ]
    refine wpAnyH_take (i := 23) (v := undef) rfl (by kernel_rfl) (by kernel_rfl) (by kernel_rfl) (fun _ _ _ h => h) (Or.inr ⟨by kernel_rfl, rfl⟩) (by assumption) ?_
    simp only [Act.put, List.setIfInBounds_toArray, List.set_cons_zero, List.set_cons_succ]
    refine wpAnyH_take (i := 24) (v := .bool false) rfl (by kernel_rfl) (by kernel_rfl) (by kernel_rfl) (fun _ _ _ h => h) (Or.inl ⟨by kernel_rfl, ?_⟩) (by assumption) ?_
    · intro w9 hSw; (try dsimp only at hSw); go_simp
    simp only [Act.put, List.setIfInBounds_toArray, List.set_cons_zero, List.set_cons_succ]
    refine wpAnyH_take (i := 25) (v := .bool false) rfl (by kernel_rfl) (by kernel_rfl) (by kernel_rfl) (fun _ _ _ h => h) (Or.inl ⟨by kernel_rfl, ?_⟩) (by assumption) ?_
    · intro w9 hSw; (try dsimp only at hSw); go_simp
    simp only [Act.put, List.setIfInBounds_toArray, List.set_cons_zero, List.set_cons_succ]
    refine wpAnyH_take (i := 26) (v := undef) rfl (by kernel_rfl) (by kernel_rfl) (by kernel_rfl) (fun _ _ _ h => h) (Or.inr ⟨by kernel_rfl, rfl⟩) (by assumption) ?_
    simp only [Act.put, List.setIfInBounds_toArray, List.set_cons_zero, List.set_cons_succ]
    refine wpAnyH_take (i := 28) (v := undef) rfl (by kernel_rfl) (by kernel_rfl) (by kernel_rfl) (fun _ _ _ h => h) (Or.inr ⟨by kernel_rfl, rfl⟩) (by assumption) ?_
    simp only [Act.put, List.setIfInBounds_toArray, List.set_cons_zero, List.set_cons_succ]
    refine wpAnyH_take (i := 29) (v := undef) rfl (by kernel_rfl) (by kernel_rfl) (by kernel_rfl) (fun _ _ _ h => h) (Or.inr ⟨by kernel_rfl, rfl⟩) (by assumption) ?_
    simp only [Act.put, List.setIfInBounds_toArray, List.set_cons_zero, List.set_cons_succ]
    refine wpAnyH_take (i := 27) (v := undef) rfl (by kernel_rfl) (by kernel_rfl) (by kernel_rfl) (fun _ _ _ h => h) (Or.inr ⟨by kernel_rfl, rfl⟩) (by assumption) ?_
    simp only [Act.put, List.setIfInBounds_toArray, List.set_cons_zero, List.set_cons_succ]
    refine wpAnyH_take (i := 30) (v := undef) rfl (by kernel_rfl) (by kernel_rfl) (by kernel_rfl) (fun _ _ _ h => h) (Or.inr ⟨by kernel_rfl, rfl⟩) (by assumption) ?_
    simp only [Act.put, List.setIfInBounds_toArray, List.set_cons_zero, List.set_cons_succ]
    refine wpAnyH_take (i := 31) (v := .bool false) rfl (by kernel_rfl) (by kernel_rfl) (by kernel_rfl) (fun _ _ _ h => h) (Or.inl ⟨by kernel_rfl, ?_⟩) (by assumption) ?_
    · intro w9 hSw; (try dsimp only at hSw); go_simp
    simp only [Act.put, List.getElem_toArray, List.getElem_cons_succ, List.getElem_cons_zero, List.setIfInBounds_toArray, List.set_cons_zero, List.set_cons_succ]
    refine wpAnyH_take (i := 32) (v := .bool false) rfl (by kernel_rfl) (by kernel_rfl) (by kernel_rfl) (fun _ _ _ h => h) (Or.inl ⟨by kernel_rfl, ?_⟩) (by assumption) ?_
    · intro w9 hSw; (try dsimp only at hSw); go_simp
    simp only [Act.put, List.getElem_toArray, List.getElem_cons_succ, List.getElem_cons_zero, List.setIfInBounds_toArray, List.set_cons_zero, List.set_cons_succ]
    refine wpAnyH_done (by kernel_rfl) ?_ _
    have bE := bW0.trans (d2.mono bW0.size)
    go_wp2
    go_ret
    exact ⟨by rw [EE.out]; rfl, bE⟩
  | true =>
  subst h2
  cases h3 : B3 with
  | false =>
    have EE : Hid (V = false) := by show _ = _; rw [HV.out, h3]; simp
    clear HV
    subst h3
    go_enter Tryz.func39, Tryz.ntmps39
    go_wp2_with fail
    rw [← HW0.out]
    refine wp_region_held_drew (S := (fun w' => w'.cell? ⟨w.heap.size, 0, none⟩ = some (.int .i64 x0) ∧ w'.cell? ⟨w.heap.size, 1, none⟩ = some (.int .i64 x1) ∧ w'.cell? ⟨w.heap.size, 2, none⟩ = some (.int .i64 x2) ∧ w'.cell? ⟨w.heap.size, 3, none⟩ = some (.slice a3 n3 c3) ∧ w'.cell? ⟨w.heap.size, 4, none⟩ = some (.slice a4 n4 c4) ∧ w'.cell? ⟨w.heap.size, 5, none⟩ = some (.slice a5 n5 c5))) (by kernel_rfl) ⟨v0, v1, v2, v3, v4, v5⟩ (fun hHeld => ?_)
    refine wpAnyH_take (i := 0) (v := .agg #[.int .i64 x0, .int .i64 x1, .int .i64 x2, .slice a3 n3 c3, .slice a4 n4 c4, .slice a5 n5 c5]) rfl (by kernel_rfl) (by kernel_rfl) (by kernel_rfl) (fun _ _ _ h => h) (Or.inl ⟨by kernel_rfl, ?_⟩) (by assumption) ?_
    · intro w9 hSw; (try dsimp only at hSw); go_simp
    simp only [Act.put, List.setIfInBounds_toArray, List.set_cons_zero, List.set_cons_succ]
    refine wpAnyH_ready (rs := [1]) (by kernel_rfl) (by simp) ?_
    refine AllReadyH.cons rfl (fun K hK => ?_) AllReadyH.nil
    go_simp
    refine (q1.out _ (bW0.trans (Below.mono bD0 bW0.size))).mono ?_
    rintro e w1 ⟨rfl, hb1⟩
    have d1 : Below W0.heap.size W0 w1 := bD0.trans (hb1.mono bD0.size)
    clear hb1
    go_wp2_with fail
    refine hK.out _ _ (BX.out w1 d1) (fun hHeld1 => ?_)
    clear hK
    refine wpAnyH_take (i := 2) (v := .bool true) rfl (by kernel_rfl) (by kernel_rfl) (by kernel_rfl) (fun _ _ _ h => h) (Or.inl ⟨by kernel_rfl, ?_⟩) (by assumption) ?_
    · intro w9 hSw; (try dsimp only at hSw); go_simp
    simp only [Act.put, List.setIfInBounds_toArray, List.set_cons_zero, List.set_cons_succ]
    refine wpAnyH_take (i := 3) (v := .pointer (some ⟨w.heap.size, 3, none⟩)) rfl (by kernel_rfl) (by kernel_rfl) (by kernel_rfl) (fun _ _ _ h => h) (Or.inl ⟨by kernel_rfl, ?_⟩) (by assumption) ?_
    · intro w9 hSw; (try dsimp only at hSw); go_simp
    simp only [Act.put, List.setIfInBounds_toArray, List.set_cons_zero, List.set_cons_succ]
    refine wpAnyH_take (i := 4) (v := .slice a3 n3 c3) rfl (by kernel_rfl) (by kernel_rfl) (by kernel_rfl) (fun _ _ _ h => h) (Or.inl ⟨by kernel_rfl, ?_⟩) (by assumption) ?_
    · intro w9 hSw; (try dsimp only at hSw); go_simp
    simp only [Act.put, List.setIfInBounds_toArray, List.set_cons_zero, List.set_cons_succ]
    refine wpAnyH_take (i := 5) (v := .pointer (some ⟨w.heap.size, 2, none⟩)) rfl (by kernel_rfl) (by kernel_rfl) (by kernel_rfl) (fun _ _ _ h => h) (Or.inl ⟨by kernel_rfl, ?_⟩) (by assumption) ?_
    · intro w9 hSw; (try dsimp only at hSw); go_simp
    simp only [Act.put, List.setIfInBounds_toArray, List.set_cons_zero, List.set_cons_succ]
    refine wpAnyH_take (i := 6) (v := .int .i64 x2) rfl (by kernel_rfl) (by kernel_rfl) (by kernel_rfl) (fun _ _ _ h => h) (Or.inl ⟨by kernel_rfl, ?_⟩) (by assumption) ?_
    · intro w9 hSw; (try dsimp only at hSw); go_simp
    simp only [Act.put, List.setIfInBounds_toArray, List.set_cons_zero, List.set_cons_succ]
    refine wpAnyH_ready (rs := [7]) (by kernel_rfl) (by simp) ?_
    refine AllReadyH.cons rfl (fun K hK => ?_) AllReadyH.nil
    go_simp
    refine (q2.out _ (bW0.trans (Below.mono d1 bW0.size))).mono ?_
    rintro e w2 ⟨rfl, hb2⟩
    have d2 : Below W0.heap.size W0 w2 := d1.trans (hb2.mono d1.size)
    clear hb2
    go_wp2_with fail
    refine hK.out _ _ (BX.out w2 d2) (fun hHeld2 => ?_)
    clear hK
    refine wpAnyH_take (i := 8) (v := .bool true) rfl (by kernel_rfl) (by kernel_rfl) (by kernel_rfl) (fun _ _ _ h => h) (Or.inl ⟨by kernel_rfl, ?_⟩) (by assumption) ?_
    · intro w9 hSw; (try dsimp only at hSw); go_simp
    simp only [Act.put, List.setIfInBounds_toArray, List.set_cons_zero, List.set_cons_succ]
    refine wpAnyH_take (i := 9) (v := .bool true) rfl (by kernel_rfl) (by kernel_rfl) (by kernel_rfl) (fun _ _ _ h => h) (Or.inl ⟨by kernel_rfl, ?_⟩) (by assumption) ?_
    · intro w9 hSw; (try dsimp only at hSw); go_simp
    simp only [Act.put, List.setIfInBounds_toArray, List.set_cons_zero, List.set_cons_succ]
    refine wpAnyH_take (i := 10) (v := .pointer (some ⟨w.heap.size, 4, none⟩)) rfl (by kernel_rfl) (by kernel_rfl) (by kernel_rfl) (fun _ _ _ h => h) (Or.inl ⟨by kernel_rfl, ?_⟩) (by assumption) ?_
    · intro w9 hSw; (try dsimp only at hSw); go_simp
    simp only [Act.put, List.setIfInBounds_toArray, List.set_cons_zero, List.set_cons_succ]
    refine wpAnyH_take (i := 11) (v := .slice a4 n4 c4) rfl (by kernel_rfl) (by kernel_rfl) (by kernel_rfl) (fun _ _ _ h => h) (Or.inl ⟨by kernel_rfl, ?_⟩) (by assumption) ?_
    · intro w9 hSw; (try dsimp only at hSw); go_simp
    simp only [Act.put, List.setIfInBounds_toArray, List.set_cons_zero, List.set_cons_succ]
    refine wpAnyH_ready (rs := [12]) (by kernel_rfl) (by simp) ?_
    refine AllReadyH.cons rfl (fun K hK => ?_) AllReadyH.nil
    go_simp
    refine (q3.out _ (bW0.trans (Below.mono d2 bW0.size))).mono ?_
    rintro e w3 ⟨rfl, hb3⟩
    have d3 : Below W0.heap.size W0 w3 := d2.trans (hb3.mono d2.size)
    clear hb3
    go_wp2_with fail
    refine hK.out _ _ (BX.out w3 d3) (fun hHeld3 => ?_)
    clear hK
    refine wpAnyH_take (i := 13) (v := .bool false) rfl (by kernel_rfl) (by kernel_rfl) (by kernel_rfl) (fun _ _ _ h => h) (Or.inl ⟨by kernel_rfl, ?_⟩) (by assumption) ?_
    · intro w9 hSw; (try dsimp only at hSw); go_simp
    simp only [Act.put, List.setIfInBounds_toArray, List.set_cons_zero, List.set_cons_succ]
    refine wpAnyH_take (i := 14) (v := .bool false) rfl (by kernel_rfl) (by kernel_rfl) (by kernel_rfl) (fun _ _ _ h => h) (Or.inl ⟨by kernel_rfl, ?_⟩) (by assumption) ?_
    · intro w9 hSw; (try dsimp only at hSw); go_simp
    simp only [Act.put, List.setIfInBounds_toArray, List.set_cons_zero, List.set_cons_succ]
    refine wpAnyH_take (i := 15) (v := undef) rfl (by kernel_rfl) (by kernel_rfl) (by kernel_rfl) (fun _ _ _ h => h) (Or.inr ⟨by kernel_rfl, rfl⟩) (by assumption) ?_
    simp only [Act.put, List.setIfInBounds_toArray, List.set_cons_zero, List.set_cons_succ]
    refine wpAnyH_take (i := 16) (v := undef) rfl (by kernel_rfl) (by kernel_rfl) (by kernel_rfl) (fun _ _ _ h => h) (Or.inr ⟨by kernel_rfl, rfl⟩) (by assumption) ?_
    simp only [Act.put, List.setIfInBounds_toArray, List.set_cons_zero, List.set_cons_succ]
    refine wpAnyH_take (i := 17) (v := undef) rfl (by kernel_rfl) (by kernel_rfl) (by kernel_rfl) (fun _ _ _ h => h) (Or.inr ⟨by kernel_rfl, rfl⟩) (by assumption) ?_
    simp only [Act.put, List.setIfInBounds_toArray, List.set_cons_zero, List.set_cons_succ]
    refine wpAnyH_take (i := 18) (v := undef) rfl (by kernel_rfl) (by kernel_rfl) (by kernel_rfl) (fun _ _ _ h => h) (Or.inr ⟨by kernel_rfl, rfl⟩) (by assumption) ?_
    simp only [Act.put, List.setIfInBounds_toArray, List.set_cons_zero, List.set_cons_succ]
    refine wpAnyH_take (i := 19) (v := undef) rfl (by kernel_rfl) (by kernel_rfl) (by kernel_rfl) (fun _ _ _ h => h) (Or.inr ⟨by kernel_rfl, rfl⟩) (by assumption) ?_
    simp only [Act.put, List.setIfInBounds_toArray, List.set_cons_zero, List.set_cons_succ]
    refine wpAnyH_take (i := 20) (v := .bool false) rfl (by kernel_rfl) (by kernel_rfl) (by kernel_rfl) (fun _ _ _ h => h) (Or.inl ⟨by kernel_rfl, ?_⟩) (by assumption) ?_
    · intro w9 hSw; (try dsimp only at hSw); go_simp
    simp only [Act.put, List.setIfInBounds_toArray, List.set_cons_zero, List.set_cons_succ]
    refine wpAnyH_take (i := 21) (v := .bool false) rfl (by kernel_rfl) (by kernel_rfl) (by kernel_rfl) (fun _ _ _ h => h) (Or.inl ⟨by kernel_rfl, ?_⟩) (by assumption) ?_
    · intro w9 hSw; (try dsimp only at hSw); go_simp
    simp only [Act.put, List.setIfInBounds_toArray, List.set_cons_zero, List.set_cons_succ]
    refine wpAnyH_take (i := 22) (v := undef) rfl (by kernel_rfl) (by kernel_rfl) (by kernel_rfl) (fun _ _ _ h => h) (Or.inr ⟨by kernel_rfl, rfl⟩) (by assumption) ?_
    simp only [Act.put, List.setIfInBounds_toArray, List.set_cons_zero, List.set_cons_succ]
    refine wpAnyH_take (i := 23) (v := undef) rfl (by kernel_rfl) (by kernel_rfl) (by kernel_rfl) (fun _ _ _ h => h) (Or.inr ⟨by kernel_rfl, rfl⟩) (by assumption) ?_
    simp only [Act.put, List.setIfInBounds_toArray, List.set_cons_zero, List.set_cons_succ]
    refine wpAnyH_take (i := 24) (v := .bool false) rfl (by kernel_rfl) (by kernel_rfl) (by kernel_rfl) (fun _ _ _ h => h) (Or.inl ⟨by kernel_rfl, ?_⟩) (by assumption) ?_
    · intro w9 hSw; (try dsimp only at hSw); go_simp
    simp only [Act.put, List.setIfInBounds_toArray, List.set_cons_zero, List.set_cons_succ]
    refine wpAnyH_take (i := 25) (v := .bool false) rfl (by kernel_rfl) (by kernel_rfl) (by kernel_rfl) (fun _ _ _ h => h) (Or.inl ⟨by kernel_rfl, ?_⟩) (by assumption) ?_
    · intro w9 hSw; (try dsimp only at hSw); go_simp
    simp only [Act.put, List.setIfInBounds_toArray, List.set_cons_zero, List.set_cons_succ]
    refine wpAnyH_take (i := 26) (v := undef) rfl (by kernel_rfl) (by kernel_rfl) (by kernel_rfl) (fun _ _ _ h => h) (Or.inr ⟨by kernel_rfl, rfl⟩) (by assumption) ?_
    simp only [Act.put, List.setIfInBounds_toArray, List.set_cons_zero, List.set_cons_succ]
    refine wpAnyH_take (i := 28) (v := undef) rfl (by kernel_rfl) (by kernel_rfl) (by kernel_rfl) (fun _ _ _ h => h) (Or.inr ⟨by kernel_rfl, rfl⟩) (by assumption) ?_
    simp only [Act.put, List.setIfInBounds_toArray, List.set_cons_zero, List.set_cons_succ]
    refine wpAnyH_take (i := 29) (v := undef) rfl (by kernel_rfl) (by kernel_rfl) (by kernel_rfl) (fun _ _ _ h => h) (Or.inr ⟨by kernel_rfl, rfl⟩) (by assumption) ?_
    simp only [Act.put, List.setIfInBounds_toArray, List.set_cons_zero, List.set_cons_succ]
    refine wpAnyH_take (i := 27) (v := undef) rfl (by kernel_rfl) (by kernel_rfl) (by kernel_rfl) (fun _ _ _ h => h) (Or.inr ⟨by kernel_rfl, rfl⟩) (by assumption) ?_
    simp only [Act.put, List.setIfInBounds_toArray, List.set_cons_zero, List.set_cons_succ]
    refine wpAnyH_take (i := 30) (v := undef) rfl (by kernel_rfl) (by kernel_rfl) (by kernel_rfl) (fun _ _ _ h => h) (Or.inr ⟨by kernel_rfl, rfl⟩) (by assumption) ?_
    simp only [Act.put, List.setIfInBounds_toArray, List.set_cons_zero, List.set_cons_succ]
    refine wpAnyH_take (i := 31) (v := .bool false) rfl (by kernel_rfl) (by kernel_rfl) (by kernel_rfl) (fun _ _ _ h => h) (Or.inl ⟨by kernel_rfl, ?_⟩) (by assumption) ?_
    · intro w9 hSw; (try dsimp only at hSw); go_simp
    simp only [Act.put, List.getElem_toArray, List.getElem_cons_succ, List.getElem_cons_zero, List.setIfInBounds_toArray, List.set_cons_zero, List.set_cons_succ]
    refine wpAnyH_take (i := 32) (v := .bool false) rfl (by kernel_rfl) (by kernel_rfl) (by kernel_rfl) (fun _ _ _ h => h) (Or.inl ⟨by kernel_rfl, ?_⟩) (by assumption) ?_
    · intro w9 hSw; (try dsimp only at hSw); go_simp
    simp only [Act.put, List.getElem_toArray, List.getElem_cons_succ, List.getElem_cons_zero, List.setIfInBounds_toArray, List.set_cons_zero, List.set_cons_succ]
    refine wpAnyH_done (by kernel_rfl) ?_ _
    have bE := bW0.trans (d3.mono bW0.size)
    go_wp2
    go_ret
    exact ⟨by rw [EE.out]; rfl, bE⟩
  | true =>
  subst h3
  cases h4 : B4 with
  | false =>
    have EE : Hid (V = false) := by show _ = _; rw [HV.out, h4]; simp
    clear HV
    subst h4
    go_enter Tryz.func39, Tryz.ntmps39
    go_wp2_with fail
    rw [← HW0.out]
    refine wp_region_held_drew (S := (fun w' => w'.cell? ⟨w.heap.size, 0, none⟩ = some (.int .i64 x0) ∧ w'.cell? ⟨w.heap.size, 1, none⟩ = some (.int .i64 x1) ∧ w'.cell? ⟨w.heap.size, 2, none⟩ = some (.int .i64 x2) ∧ w'.cell? ⟨w.heap.size, 3, none⟩ = some (.slice a3 n3 c3) ∧ w'.cell? ⟨w.heap.size, 4, none⟩ = some (.slice a4 n4 c4) ∧ w'.cell? ⟨w.heap.size, 5, none⟩ = some (.slice a5 n5 c5))) (by kernel_rfl) ⟨v0, v1, v2, v3, v4, v5⟩ (fun hHeld => ?_)
    refine wpAnyH_take (i := 0) (v := .agg #[.int .i64 x0, .int .i64 x1, .int .i64 x2, .slice a3 n3 c3, .slice a4 n4 c4, .slice a5 n5 c5]) rfl (by kernel_rfl) (by kernel_rfl) (by kernel_rfl) (fun _ _ _ h => h) (Or.inl ⟨by kernel_rfl, ?_⟩) (by assumption) ?_
    · intro w9 hSw; (try dsimp only at hSw); go_simp
    simp only [Act.put, List.setIfInBounds_toArray, List.set_cons_zero, List.set_cons_succ]
    refine wpAnyH_ready (rs := [1]) (by kernel_rfl) (by simp) ?_
    refine AllReadyH.cons rfl (fun K hK => ?_) AllReadyH.nil
    go_simp
    refine (q1.out _ (bW0.trans (Below.mono bD0 bW0.size))).mono ?_
    rintro e w1 ⟨rfl, hb1⟩
    have d1 : Below W0.heap.size W0 w1 := bD0.trans (hb1.mono bD0.size)
    clear hb1
    go_wp2_with fail
    refine hK.out _ _ (BX.out w1 d1) (fun hHeld1 => ?_)
    clear hK
    refine wpAnyH_take (i := 2) (v := .bool true) rfl (by kernel_rfl) (by kernel_rfl) (by kernel_rfl) (fun _ _ _ h => h) (Or.inl ⟨by kernel_rfl, ?_⟩) (by assumption) ?_
    · intro w9 hSw; (try dsimp only at hSw); go_simp
    simp only [Act.put, List.setIfInBounds_toArray, List.set_cons_zero, List.set_cons_succ]
    refine wpAnyH_take (i := 3) (v := .pointer (some ⟨w.heap.size, 3, none⟩)) rfl (by kernel_rfl) (by kernel_rfl) (by kernel_rfl) (fun _ _ _ h => h) (Or.inl ⟨by kernel_rfl, ?_⟩) (by assumption) ?_
    · intro w9 hSw; (try dsimp only at hSw); go_simp
    simp only [Act.put, List.setIfInBounds_toArray, List.set_cons_zero, List.set_cons_succ]
    refine wpAnyH_take (i := 4) (v := .slice a3 n3 c3) rfl (by kernel_rfl) (by kernel_rfl) (by kernel_rfl) (fun _ _ _ h => h) (Or.inl ⟨by kernel_rfl, ?_⟩) (by assumption) ?_
    · intro w9 hSw; (try dsimp only at hSw); go_simp
    simp only [Act.put, List.setIfInBounds_toArray, List.set_cons_zero, List.set_cons_succ]
    refine wpAnyH_take (i := 5) (v := .pointer (some ⟨w.heap.size, 2, none⟩)) rfl (by kernel_rfl) (by kernel_rfl) (by kernel_rfl) (fun _ _ _ h => h) (Or.inl ⟨by kernel_rfl, ?_⟩) (by assumption) ?_
    · intro w9 hSw; (try dsimp only at hSw); go_simp
    simp only [Act.put, List.setIfInBounds_toArray, List.set_cons_zero, List.set_cons_succ]
    refine wpAnyH_take (i := 6) (v := .int .i64 x2) rfl (by kernel_rfl) (by kernel_rfl) (by kernel_rfl) (fun _ _ _ h => h) (Or.inl ⟨by kernel_rfl, ?_⟩) (by assumption) ?_
    · intro w9 hSw; (try dsimp only at hSw); go_simp
    simp only [Act.put, List.setIfInBounds_toArray, List.set_cons_zero, List.set_cons_succ]
    refine wpAnyH_ready (rs := [7]) (by kernel_rfl) (by simp) ?_
    refine AllReadyH.cons rfl (fun K hK => ?_) AllReadyH.nil
    go_simp
    refine (q2.out _ (bW0.trans (Below.mono d1 bW0.size))).mono ?_
    rintro e w2 ⟨rfl, hb2⟩
    have d2 : Below W0.heap.size W0 w2 := d1.trans (hb2.mono d1.size)
    clear hb2
    go_wp2_with fail
    refine hK.out _ _ (BX.out w2 d2) (fun hHeld2 => ?_)
    clear hK
    refine wpAnyH_take (i := 8) (v := .bool true) rfl (by kernel_rfl) (by kernel_rfl) (by kernel_rfl) (fun _ _ _ h => h) (Or.inl ⟨by kernel_rfl, ?_⟩) (by assumption) ?_
    · intro w9 hSw; (try dsimp only at hSw); go_simp
    simp only [Act.put, List.setIfInBounds_toArray, List.set_cons_zero, List.set_cons_succ]
    refine wpAnyH_take (i := 9) (v := .bool true) rfl (by kernel_rfl) (by kernel_rfl) (by kernel_rfl) (fun _ _ _ h => h) (Or.inl ⟨by kernel_rfl, ?_⟩) (by assumption) ?_
    · intro w9 hSw; (try dsimp only at hSw); go_simp
    simp only [Act.put, List.setIfInBounds_toArray, List.set_cons_zero, List.set_cons_succ]
    refine wpAnyH_take (i := 10) (v := .pointer (some ⟨w.heap.size, 4, none⟩)) rfl (by kernel_rfl) (by kernel_rfl) (by kernel_rfl) (fun _ _ _ h => h) (Or.inl ⟨by kernel_rfl, ?_⟩) (by assumption) ?_
    · intro w9 hSw; (try dsimp only at hSw); go_simp
    simp only [Act.put, List.setIfInBounds_toArray, List.set_cons_zero, List.set_cons_succ]
    refine wpAnyH_take (i := 11) (v := .slice a4 n4 c4) rfl (by kernel_rfl) (by kernel_rfl) (by kernel_rfl) (fun _ _ _ h => h) (Or.inl ⟨by kernel_rfl, ?_⟩) (by assumption) ?_
    · intro w9 hSw; (try dsimp only at hSw); go_simp
    simp only [Act.put, List.setIfInBounds_toArray, List.set_cons_zero, List.set_cons_succ]
    refine wpAnyH_ready (rs := [12]) (by kernel_rfl) (by simp) ?_
    refine AllReadyH.cons rfl (fun K hK => ?_) AllReadyH.nil
    go_simp
    refine (q3.out _ (bW0.trans (Below.mono d2 bW0.size))).mono ?_
    rintro e w3 ⟨rfl, hb3⟩
    have d3 : Below W0.heap.size W0 w3 := d2.trans (hb3.mono d2.size)
    clear hb3
    go_wp2_with fail
    refine hK.out _ _ (BX.out w3 d3) (fun hHeld3 => ?_)
    clear hK
    refine wpAnyH_take (i := 13) (v := .bool true) rfl (by kernel_rfl) (by kernel_rfl) (by kernel_rfl) (fun _ _ _ h => h) (Or.inl ⟨by kernel_rfl, ?_⟩) (by assumption) ?_
    · intro w9 hSw; (try dsimp only at hSw); go_simp
    simp only [Act.put, List.setIfInBounds_toArray, List.set_cons_zero, List.set_cons_succ]
    refine wpAnyH_take (i := 14) (v := .bool true) rfl (by kernel_rfl) (by kernel_rfl) (by kernel_rfl) (fun _ _ _ h => h) (Or.inl ⟨by kernel_rfl, ?_⟩) (by assumption) ?_
    · intro w9 hSw; (try dsimp only at hSw); go_simp
    simp only [Act.put, List.setIfInBounds_toArray, List.set_cons_zero, List.set_cons_succ]
    refine wpAnyH_take (i := 15) (v := .pointer (some ⟨w.heap.size, 4, none⟩)) rfl (by kernel_rfl) (by kernel_rfl) (by kernel_rfl) (fun _ _ _ h => h) (Or.inl ⟨by kernel_rfl, ?_⟩) (by assumption) ?_
    · intro w9 hSw; (try dsimp only at hSw); go_simp
    simp only [Act.put, List.setIfInBounds_toArray, List.set_cons_zero, List.set_cons_succ]
    refine wpAnyH_take (i := 16) (v := .slice a4 n4 c4) rfl (by kernel_rfl) (by kernel_rfl) (by kernel_rfl) (fun _ _ _ h => h) (Or.inl ⟨by kernel_rfl, ?_⟩) (by assumption) ?_
    · intro w9 hSw; (try dsimp only at hSw); go_simp
    simp only [Act.put, List.setIfInBounds_toArray, List.set_cons_zero, List.set_cons_succ]
    refine wpAnyH_take (i := 17) (v := .pointer (some ⟨w.heap.size, 5, none⟩)) rfl (by kernel_rfl) (by kernel_rfl) (by kernel_rfl) (fun _ _ _ h => h) (Or.inl ⟨by kernel_rfl, ?_⟩) (by assumption) ?_
    · intro w9 hSw; (try dsimp only at hSw); go_simp
    simp only [Act.put, List.setIfInBounds_toArray, List.set_cons_zero, List.set_cons_succ]
    refine wpAnyH_take (i := 18) (v := .slice a5 n5 c5) rfl (by kernel_rfl) (by kernel_rfl) (by kernel_rfl) (fun _ _ _ h => h) (Or.inl ⟨by kernel_rfl, ?_⟩) (by assumption) ?_
    · intro w9 hSw; (try dsimp only at hSw); go_simp
    simp only [Act.put, List.setIfInBounds_toArray, List.set_cons_zero, List.set_cons_succ]
    refine wpAnyH_ready (rs := [19]) (by kernel_rfl) (by simp) ?_
    refine AllReadyH.cons rfl (fun K hK => ?_) AllReadyH.nil
    go_simp
    refine (q4.out _ (bW0.trans (Below.mono d3 bW0.size))).mono ?_
    rintro e w4 ⟨rfl, hb4⟩
    have d4 : Below W0.heap.size W0 w4 := d3.trans (hb4.mono d3.size)
    clear hb4
    go_wp2_with fail
    refine hK.out _ _ (BX.out w4 d4) (fun hHeld4 => ?_)
    clear hK
    refine wpAnyH_take (i := 20) (v := .bool false) rfl (by kernel_rfl) (by kernel_rfl) (by kernel_rfl) (fun _ _ _ h => h) (Or.inl ⟨by kernel_rfl, ?_⟩) (by assumption) ?_
    · intro w9 hSw; (try dsimp only at hSw); go_simp
    simp only [Act.put, List.setIfInBounds_toArray, List.set_cons_zero, List.set_cons_succ]
    refine wpAnyH_take (i := 21) (v := .bool false) rfl (by kernel_rfl) (by kernel_rfl) (by kernel_rfl) (fun _ _ _ h => h) (Or.inl ⟨by kernel_rfl, ?_⟩) (by assumption) ?_
    · intro w9 hSw; (try dsimp only at hSw); go_simp
    simp only [Act.put, List.setIfInBounds_toArray, List.set_cons_zero, List.set_cons_succ]
    refine wpAnyH_take (i := 22) (v := undef) rfl (by kernel_rfl) (by kernel_rfl) (by kernel_rfl) (fun _ _ _ h => h) (Or.inr ⟨by kernel_rfl, rfl⟩) (by assumption) ?_
    simp only [Act.put, List.setIfInBounds_toArray, List.set_cons_zero, List.set_cons_succ]
    refine wpAnyH_take (i := 23) (v := undef) rfl (by kernel_rfl) (by kernel_rfl) (by kernel_rfl) (fun _ _ _ h => h) (Or.inr ⟨by kernel_rfl, rfl⟩) (by assumption) ?_
    simp only [Act.put, List.setIfInBounds_toArray, List.set_cons_zero, List.set_cons_succ]
    refine wpAnyH_take (i := 24) (v := .bool false) rfl (by kernel_rfl) (by kernel_rfl) (by kernel_rfl) (fun _ _ _ h => h) (Or.inl ⟨by kernel_rfl, ?_⟩) (by assumption) ?_
    · intro w9 hSw; (try dsimp only at hSw); go_simp
    simp only [Act.put, List.setIfInBounds_toArray, List.set_cons_zero, List.set_cons_succ]
    refine wpAnyH_take (i := 25) (v := .bool false) rfl (by kernel_rfl) (by kernel_rfl) (by kernel_rfl) (fun _ _ _ h => h) (Or.inl ⟨by kernel_rfl, ?_⟩) (by assumption) ?_
    · intro w9 hSw; (try dsimp only at hSw); go_simp
    simp only [Act.put, List.setIfInBounds_toArray, List.set_cons_zero, List.set_cons_succ]
    refine wpAnyH_take (i := 26) (v := undef) rfl (by kernel_rfl) (by kernel_rfl) (by kernel_rfl) (fun _ _ _ h => h) (Or.inr ⟨by kernel_rfl, rfl⟩) (by assumption) ?_
    simp only [Act.put, List.setIfInBounds_toArray, List.set_cons_zero, List.set_cons_succ]
    refine wpAnyH_take (i := 28) (v := undef) rfl (by kernel_rfl) (by kernel_rfl) (by kernel_rfl) (fun _ _ _ h => h) (Or.inr ⟨by kernel_rfl, rfl⟩) (by assumption) ?_
    simp only [Act.put, List.setIfInBounds_toArray, List.set_cons_zero, List.set_cons_succ]
    refine wpAnyH_take (i := 29) (v := undef) rfl (by kernel_rfl) (by kernel_rfl) (by kernel_rfl) (fun _ _ _ h => h) (Or.inr ⟨by kernel_rfl, rfl⟩) (by assumption) ?_
    simp only [Act.put, List.setIfInBounds_toArray, List.set_cons_zero, List.set_cons_succ]
    refine wpAnyH_take (i := 27) (v := undef) rfl (by kernel_rfl) (by kernel_rfl) (by kernel_rfl) (fun _ _ _ h => h) (Or.inr ⟨by kernel_rfl, rfl⟩) (by assumption) ?_
    simp only [Act.put, List.setIfInBounds_toArray, List.set_cons_zero, List.set_cons_succ]
    refine wpAnyH_take (i := 30) (v := undef) rfl (by kernel_rfl) (by kernel_rfl) (by kernel_rfl) (fun _ _ _ h => h) (Or.inr ⟨by kernel_rfl, rfl⟩) (by assumption) ?_
    simp only [Act.put, List.setIfInBounds_toArray, List.set_cons_zero, List.set_cons_succ]
    refine wpAnyH_take (i := 31) (v := .bool false) rfl (by kernel_rfl) (by kernel_rfl) (by kernel_rfl) (fun _ _ _ h => h) (Or.inl ⟨by kernel_rfl, ?_⟩) (by assumption) ?_
    · intro w9 hSw; (try dsimp only at hSw); go_simp
    simp only [Act.put, List.getElem_toArray, List.getElem_cons_succ, List.getElem_cons_zero, List.setIfInBounds_toArray, List.set_cons_zero, List.set_cons_succ]
    refine wpAnyH_take (i := 32) (v := .bool false) rfl (by kernel_rfl) (by kernel_rfl) (by kernel_rfl) (fun _ _ _ h => h) (Or.inl ⟨by kernel_rfl, ?_⟩) (by assumption) ?_
    · intro w9 hSw; (try dsimp only at hSw); go_simp
    simp only [Act.put, List.getElem_toArray, List.getElem_cons_succ, List.getElem_cons_zero, List.setIfInBounds_toArray, List.set_cons_zero, List.set_cons_succ]
    refine wpAnyH_done (by kernel_rfl) ?_ _
    have bE := bW0.trans (d4.mono bW0.size)
    go_wp2
    go_ret
    exact ⟨by rw [EE.out]; rfl, bE⟩
  | true =>
  subst h4
  cases h5 : B5 with
  | false =>
    have EE : Hid (V = false) := by show _ = _; rw [HV.out, h5]; simp
    clear HV
    subst h5
    go_enter Tryz.func39, Tryz.ntmps39
    go_wp2_with fail
    rw [← HW0.out]
    refine wp_region_held_drew (S := (fun w' => w'.cell? ⟨w.heap.size, 0, none⟩ = some (.int .i64 x0) ∧ w'.cell? ⟨w.heap.size, 1, none⟩ = some (.int .i64 x1) ∧ w'.cell? ⟨w.heap.size, 2, none⟩ = some (.int .i64 x2) ∧ w'.cell? ⟨w.heap.size, 3, none⟩ = some (.slice a3 n3 c3) ∧ w'.cell? ⟨w.heap.size, 4, none⟩ = some (.slice a4 n4 c4) ∧ w'.cell? ⟨w.heap.size, 5, none⟩ = some (.slice a5 n5 c5))) (by kernel_rfl) ⟨v0, v1, v2, v3, v4, v5⟩ (fun hHeld => ?_)
    refine wpAnyH_take (i := 0) (v := .agg #[.int .i64 x0, .int .i64 x1, .int .i64 x2, .slice a3 n3 c3, .slice a4 n4 c4, .slice a5 n5 c5]) rfl (by kernel_rfl) (by kernel_rfl) (by kernel_rfl) (fun _ _ _ h => h) (Or.inl ⟨by kernel_rfl, ?_⟩) (by assumption) ?_
    · intro w9 hSw; (try dsimp only at hSw); go_simp
    simp only [Act.put, List.setIfInBounds_toArray, List.set_cons_zero, List.set_cons_succ]
    refine wpAnyH_ready (rs := [1]) (by kernel_rfl) (by simp) ?_
    refine AllReadyH.cons rfl (fun K hK => ?_) AllReadyH.nil
    go_simp
    refine (q1.out _ (bW0.trans (Below.mono bD0 bW0.size))).mono ?_
    rintro e w1 ⟨rfl, hb1⟩
    have d1 : Below W0.heap.size W0 w1 := bD0.trans (hb1.mono bD0.size)
    clear hb1
    go_wp2_with fail
    refine hK.out _ _ (BX.out w1 d1) (fun hHeld1 => ?_)
    clear hK
    refine wpAnyH_take (i := 2) (v := .bool true) rfl (by kernel_rfl) (by kernel_rfl) (by kernel_rfl) (fun _ _ _ h => h) (Or.inl ⟨by kernel_rfl, ?_⟩) (by assumption) ?_
    · intro w9 hSw; (try dsimp only at hSw); go_simp
    simp only [Act.put, List.setIfInBounds_toArray, List.set_cons_zero, List.set_cons_succ]
    refine wpAnyH_take (i := 3) (v := .pointer (some ⟨w.heap.size, 3, none⟩)) rfl (by kernel_rfl) (by kernel_rfl) (by kernel_rfl) (fun _ _ _ h => h) (Or.inl ⟨by kernel_rfl, ?_⟩) (by assumption) ?_
    · intro w9 hSw; (try dsimp only at hSw); go_simp
    simp only [Act.put, List.setIfInBounds_toArray, List.set_cons_zero, List.set_cons_succ]
    refine wpAnyH_take (i := 4) (v := .slice a3 n3 c3) rfl (by kernel_rfl) (by kernel_rfl) (by kernel_rfl) (fun _ _ _ h => h) (Or.inl ⟨by kernel_rfl, ?_⟩) (by assumption) ?_
    · intro w9 hSw; (try dsimp only at hSw); go_simp
    simp only [Act.put, List.setIfInBounds_toArray, List.set_cons_zero, List.set_cons_succ]
    refine wpAnyH_take (i := 5) (v := .pointer (some ⟨w.heap.size, 2, none⟩)) rfl (by kernel_rfl) (by kernel_rfl) (by kernel_rfl) (fun _ _ _ h => h) (Or.inl ⟨by kernel_rfl, ?_⟩) (by assumption) ?_
    · intro w9 hSw; (try dsimp only at hSw); go_simp
    simp only [Act.put, List.setIfInBounds_toArray, List.set_cons_zero, List.set_cons_succ]
    refine wpAnyH_take (i := 6) (v := .int .i64 x2) rfl (by kernel_rfl) (by kernel_rfl) (by kernel_rfl) (fun _ _ _ h => h) (Or.inl ⟨by kernel_rfl, ?_⟩) (by assumption) ?_
    · intro w9 hSw; (try dsimp only at hSw); go_simp
    simp only [Act.put, List.setIfInBounds_toArray, List.set_cons_zero, List.set_cons_succ]
    refine wpAnyH_ready (rs := [7]) (by kernel_rfl) (by simp) ?_
    refine AllReadyH.cons rfl (fun K hK => ?_) AllReadyH.nil
    go_simp
    refine (q2.out _ (bW0.trans (Below.mono d1 bW0.size))).mono ?_
    rintro e w2 ⟨rfl, hb2⟩
    have d2 : Below W0.heap.size W0 w2 := d1.trans (hb2.mono d1.size)
    clear hb2
    go_wp2_with fail
    refine hK.out _ _ (BX.out w2 d2) (fun hHeld2 => ?_)
    clear hK
    refine wpAnyH_take (i := 8) (v := .bool true) rfl (by kernel_rfl) (by kernel_rfl) (by kernel_rfl) (fun _ _ _ h => h) (Or.inl ⟨by kernel_rfl, ?_⟩) (by assumption) ?_
    · intro w9 hSw; (try dsimp only at hSw); go_simp
    simp only [Act.put, List.setIfInBounds_toArray, List.set_cons_zero, List.set_cons_succ]
    refine wpAnyH_take (i := 9) (v := .bool true) rfl (by kernel_rfl) (by kernel_rfl) (by kernel_rfl) (fun _ _ _ h => h) (Or.inl ⟨by kernel_rfl, ?_⟩) (by assumption) ?_
    · intro w9 hSw; (try dsimp only at hSw); go_simp
    simp only [Act.put, List.setIfInBounds_toArray, List.set_cons_zero, List.set_cons_succ]
    refine wpAnyH_take (i := 10) (v := .pointer (some ⟨w.heap.size, 4, none⟩)) rfl (by kernel_rfl) (by kernel_rfl) (by kernel_rfl) (fun _ _ _ h => h) (Or.inl ⟨by kernel_rfl, ?_⟩) (by assumption) ?_
    · intro w9 hSw; (try dsimp only at hSw); go_simp
    simp only [Act.put, List.setIfInBounds_toArray, List.set_cons_zero, List.set_cons_succ]
    refine wpAnyH_take (i := 11) (v := .slice a4 n4 c4) rfl (by kernel_rfl) (by kernel_rfl) (by kernel_rfl) (fun _ _ _ h => h) (Or.inl ⟨by kernel_rfl, ?_⟩) (by assumption) ?_
    · intro w9 hSw; (try dsimp only at hSw); go_simp
    simp only [Act.put, List.setIfInBounds_toArray, List.set_cons_zero, List.set_cons_succ]
    refine wpAnyH_ready (rs := [12]) (by kernel_rfl) (by simp) ?_
    refine AllReadyH.cons rfl (fun K hK => ?_) AllReadyH.nil
    go_simp
    refine (q3.out _ (bW0.trans (Below.mono d2 bW0.size))).mono ?_
    rintro e w3 ⟨rfl, hb3⟩
    have d3 : Below W0.heap.size W0 w3 := d2.trans (hb3.mono d2.size)
    clear hb3
    go_wp2_with fail
    refine hK.out _ _ (BX.out w3 d3) (fun hHeld3 => ?_)
    clear hK
    refine wpAnyH_take (i := 13) (v := .bool true) rfl (by kernel_rfl) (by kernel_rfl) (by kernel_rfl) (fun _ _ _ h => h) (Or.inl ⟨by kernel_rfl, ?_⟩) (by assumption) ?_
    · intro w9 hSw; (try dsimp only at hSw); go_simp
    simp only [Act.put, List.setIfInBounds_toArray, List.set_cons_zero, List.set_cons_succ]
    refine wpAnyH_take (i := 14) (v := .bool true) rfl (by kernel_rfl) (by kernel_rfl) (by kernel_rfl) (fun _ _ _ h => h) (Or.inl ⟨by kernel_rfl, ?_⟩) (by assumption) ?_
    · intro w9 hSw; (try dsimp only at hSw); go_simp
    simp only [Act.put, List.setIfInBounds_toArray, List.set_cons_zero, List.set_cons_succ]
    refine wpAnyH_take (i := 15) (v := .pointer (some ⟨w.heap.size, 4, none⟩)) rfl (by kernel_rfl) (by kernel_rfl) (by kernel_rfl) (fun _ _ _ h => h) (Or.inl ⟨by kernel_rfl, ?_⟩) (by assumption) ?_
    · intro w9 hSw; (try dsimp only at hSw); go_simp
    simp only [Act.put, List.setIfInBounds_toArray, List.set_cons_zero, List.set_cons_succ]
    refine wpAnyH_take (i := 16) (v := .slice a4 n4 c4) rfl (by kernel_rfl) (by kernel_rfl) (by kernel_rfl) (fun _ _ _ h => h) (Or.inl ⟨by kernel_rfl, ?_⟩) (by assumption) ?_
    · intro w9 hSw; (try dsimp only at hSw); go_simp
    simp only [Act.put, List.setIfInBounds_toArray, List.set_cons_zero, List.set_cons_succ]
    refine wpAnyH_take (i := 17) (v := .pointer (some ⟨w.heap.size, 5, none⟩)) rfl (by kernel_rfl) (by kernel_rfl) (by kernel_rfl) (fun _ _ _ h => h) (Or.inl ⟨by kernel_rfl, ?_⟩) (by assumption) ?_
    · intro w9 hSw; (try dsimp only at hSw); go_simp
    simp only [Act.put, List.setIfInBounds_toArray, List.set_cons_zero, List.set_cons_succ]
    refine wpAnyH_take (i := 18) (v := .slice a5 n5 c5) rfl (by kernel_rfl) (by kernel_rfl) (by kernel_rfl) (fun _ _ _ h => h) (Or.inl ⟨by kernel_rfl, ?_⟩) (by assumption) ?_
    · intro w9 hSw; (try dsimp only at hSw); go_simp
    simp only [Act.put, List.setIfInBounds_toArray, List.set_cons_zero, List.set_cons_succ]
    refine wpAnyH_ready (rs := [19]) (by kernel_rfl) (by simp) ?_
    refine AllReadyH.cons rfl (fun K hK => ?_) AllReadyH.nil
    go_simp
    refine (q4.out _ (bW0.trans (Below.mono d3 bW0.size))).mono ?_
    rintro e w4 ⟨rfl, hb4⟩
    have d4 : Below W0.heap.size W0 w4 := d3.trans (hb4.mono d3.size)
    clear hb4
    go_wp2_with fail
    refine hK.out _ _ (BX.out w4 d4) (fun hHeld4 => ?_)
    clear hK
    refine wpAnyH_take (i := 20) (v := .bool true) rfl (by kernel_rfl) (by kernel_rfl) (by kernel_rfl) (fun _ _ _ h => h) (Or.inl ⟨by kernel_rfl, ?_⟩) (by assumption) ?_
    · intro w9 hSw; (try dsimp only at hSw); go_simp
    simp only [Act.put, List.setIfInBounds_toArray, List.set_cons_zero, List.set_cons_succ]
    refine wpAnyH_take (i := 21) (v := .bool true) rfl (by kernel_rfl) (by kernel_rfl) (by kernel_rfl) (fun _ _ _ h => h) (Or.inl ⟨by kernel_rfl, ?_⟩) (by assumption) ?_
    · intro w9 hSw; (try dsimp only at hSw); go_simp
    simp only [Act.put, List.setIfInBounds_toArray, List.set_cons_zero, List.set_cons_succ]
    refine wpAnyH_take (i := 22) (v := .agg #[.int .i64 x0, .int .i64 x1, .int .i64 x2, .slice a3 n3 c3, .slice a4 n4 c4, .slice a5 n5 c5]) rfl (by kernel_rfl) (by kernel_rfl) (by kernel_rfl) (fun _ _ _ h => h) (Or.inl ⟨by kernel_rfl, ?_⟩) (by assumption) ?_
    · intro w9 hSw; (try dsimp only at hSw); go_simp
    simp only [Act.put, List.setIfInBounds_toArray, List.set_cons_zero, List.set_cons_succ]
    refine wpAnyH_ready (rs := [23]) (by kernel_rfl) (by simp) ?_
    refine AllReadyH.cons rfl (fun K hK => ?_) AllReadyH.nil
    go_simp
    refine (q5.out _ (bW0.trans (Below.mono d4 bW0.size))).mono ?_
    rintro e w5 ⟨rfl, hb5⟩
    have d5 : Below W0.heap.size W0 w5 := d4.trans (hb5.mono d4.size)
    clear hb5
    go_wp2_with fail
    refine hK.out _ _ (BX.out w5 d5) (fun hHeld5 => ?_)
    clear hK
    refine wpAnyH_take (i := 24) (v := .bool false) rfl (by kernel_rfl) (by kernel_rfl) (by kernel_rfl) (fun _ _ _ h => h) (Or.inl ⟨by kernel_rfl, ?_⟩) (by assumption) ?_
    · intro w9 hSw; (try dsimp only at hSw); go_simp
    simp only [Act.put, List.setIfInBounds_toArray, List.set_cons_zero, List.set_cons_succ]
    refine wpAnyH_take (i := 25) (v := .bool false) rfl (by kernel_rfl) (by kernel_rfl) (by kernel_rfl) (fun _ _ _ h => h) (Or.inl ⟨by kernel_rfl, ?_⟩) (by assumption) ?_
    · intro w9 hSw; (try dsimp only at hSw); go_simp
    simp only [Act.put, List.setIfInBounds_toArray, List.set_cons_zero, List.set_cons_succ]
    refine wpAnyH_take (i := 26) (v := undef) rfl (by kernel_rfl) (by kernel_rfl) (by kernel_rfl) (fun _ _ _ h => h) (Or.inr ⟨by kernel_rfl, rfl⟩) (by assumption) ?_
    simp only [Act.put, List.setIfInBounds_toArray, List.set_cons_zero, List.set_cons_succ]
    refine wpAnyH_take (i := 28) (v := undef) rfl (by kernel_rfl) (by kernel_rfl) (by kernel_rfl) (fun _ _ _ h => h) (Or.inr ⟨by kernel_rfl, rfl⟩) (by assumption) ?_
    simp only [Act.put, List.setIfInBounds_toArray, List.set_cons_zero, List.set_cons_succ]
    refine wpAnyH_take (i := 29) (v := undef) rfl (by kernel_rfl) (by kernel_rfl) (by kernel_rfl) (fun _ _ _ h => h) (Or.inr ⟨by kernel_rfl, rfl⟩) (by assumption) ?_
    simp only [Act.put, List.setIfInBounds_toArray, List.set_cons_zero, List.set_cons_succ]
    refine wpAnyH_take (i := 27) (v := undef) rfl (by kernel_rfl) (by kernel_rfl) (by kernel_rfl) (fun _ _ _ h => h) (Or.inr ⟨by kernel_rfl, rfl⟩) (by assumption) ?_
    simp only [Act.put, List.setIfInBounds_toArray, List.set_cons_zero, List.set_cons_succ]
    refine wpAnyH_take (i := 30) (v := undef) rfl (by kernel_rfl) (by kernel_rfl) (by kernel_rfl) (fun _ _ _ h => h) (Or.inr ⟨by kernel_rfl, rfl⟩) (by assumption) ?_
    simp only [Act.put, List.setIfInBounds_toArray, List.set_cons_zero, List.set_cons_succ]
    refine wpAnyH_take (i := 31) (v := .bool false) rfl (by kernel_rfl) (by kernel_rfl) (by kernel_rfl) (fun _ _ _ h => h) (Or.inl ⟨by kernel_rfl, ?_⟩) (by assumption) ?_
    · intro w9 hSw; (try dsimp only at hSw); go_simp
    simp only [Act.put, List.getElem_toArray, List.getElem_cons_succ, List.getElem_cons_zero, List.setIfInBounds_toArray, List.set_cons_zero, List.set_cons_succ]
    refine wpAnyH_take (i := 32) (v := .bool false) rfl (by kernel_rfl) (by kernel_rfl) (by kernel_rfl) (fun _ _ _ h => h) (Or.inl ⟨by kernel_rfl, ?_⟩) (by assumption) ?_
    · intro w9 hSw; (try dsimp only at hSw); go_simp
    simp only [Act.put, List.getElem_toArray, List.getElem_cons_succ, List.getElem_cons_zero, List.setIfInBounds_toArray, List.set_cons_zero, List.set_cons_succ]
    refine wpAnyH_done (by kernel_rfl) ?_ _
    have bE := bW0.trans (d5.mono bW0.size)
    go_wp2
    go_ret
    exact ⟨by rw [EE.out]; rfl, bE⟩
  | true =>
  subst h5
  have EE : Hid (V = decide (U ≤ x0)) := by show _ = _; rw [HV.out]; simp
  clear HV
  go_enter Tryz.func39, Tryz.ntmps39
  go_wp2_with fail
  rw [← HW0.out]
  refine wp_region_held_drew (S := (fun w' => w'.cell? ⟨w.heap.size, 0, none⟩ = some (.int .i64 x0) ∧ w'.cell? ⟨w.heap.size, 1, none⟩ = some (.int .i64 x1) ∧ w'.cell? ⟨w.heap.size, 2, none⟩ = some (.int .i64 x2) ∧ w'.cell? ⟨w.heap.size, 3, none⟩ = some (.slice a3 n3 c3) ∧ w'.cell? ⟨w.heap.size, 4, none⟩ = some (.slice a4 n4 c4) ∧ w'.cell? ⟨w.heap.size, 5, none⟩ = some (.slice a5 n5 c5))) (by kernel_rfl) ⟨v0, v1, v2, v3, v4, v5⟩ (fun hHeld => ?_)
  refine wpAnyH_take (i := 0) (v := .agg #[.int .i64 x0, .int .i64 x1, .int .i64 x2, .slice a3 n3 c3, .slice a4 n4 c4, .slice a5 n5 c5]) rfl (by kernel_rfl) (by kernel_rfl) (by kernel_rfl) (fun _ _ _ h => h) (Or.inl ⟨by kernel_rfl, ?_⟩) (by assumption) ?_
  · intro w9 hSw; (try dsimp only at hSw); go_simp
  simp only [Act.put, List.setIfInBounds_toArray, List.set_cons_zero, List.set_cons_succ]
  refine wpAnyH_ready (rs := [1]) (by kernel_rfl) (by simp) ?_
  refine AllReadyH.cons rfl (fun K hK => ?_) AllReadyH.nil
  go_simp
  refine (q1.out _ (bW0.trans (Below.mono bD0 bW0.size))).mono ?_
  rintro e w1 ⟨rfl, hb1⟩
  have d1 : Below W0.heap.size W0 w1 := bD0.trans (hb1.mono bD0.size)
  clear hb1
  go_wp2_with fail
  refine hK.out _ _ (BX.out w1 d1) (fun hHeld1 => ?_)
  clear hK
  refine wpAnyH_take (i := 2) (v := .bool true) rfl (by kernel_rfl) (by kernel_rfl) (by kernel_rfl) (fun _ _ _ h => h) (Or.inl ⟨by kernel_rfl, ?_⟩) (by assumption) ?_
  · intro w9 hSw; (try dsimp only at hSw); go_simp
  simp only [Act.put, List.setIfInBounds_toArray, List.set_cons_zero, List.set_cons_succ]
  refine wpAnyH_take (i := 3) (v := .pointer (some ⟨w.heap.size, 3, none⟩)) rfl (by kernel_rfl) (by kernel_rfl) (by kernel_rfl) (fun _ _ _ h => h) (Or.inl ⟨by kernel_rfl, ?_⟩) (by assumption) ?_
  · intro w9 hSw; (try dsimp only at hSw); go_simp
  simp only [Act.put, List.setIfInBounds_toArray, List.set_cons_zero, List.set_cons_succ]
  refine wpAnyH_take (i := 4) (v := .slice a3 n3 c3) rfl (by kernel_rfl) (by kernel_rfl) (by kernel_rfl) (fun _ _ _ h => h) (Or.inl ⟨by kernel_rfl, ?_⟩) (by assumption) ?_
  · intro w9 hSw; (try dsimp only at hSw); go_simp
  simp only [Act.put, List.setIfInBounds_toArray, List.set_cons_zero, List.set_cons_succ]
  refine wpAnyH_take (i := 5) (v := .pointer (some ⟨w.heap.size, 2, none⟩)) rfl (by kernel_rfl) (by kernel_rfl) (by kernel_rfl) (fun _ _ _ h => h) (Or.inl ⟨by kernel_rfl, ?_⟩) (by assumption) ?_
  · intro w9 hSw; (try dsimp only at hSw); go_simp
  simp only [Act.put, List.setIfInBounds_toArray, List.set_cons_zero, List.set_cons_succ]
  refine wpAnyH_take (i := 6) (v := .int .i64 x2) rfl (by kernel_rfl) (by kernel_rfl) (by kernel_rfl) (fun _ _ _ h => h) (Or.inl ⟨by kernel_rfl, ?_⟩) (by assumption) ?_
  · intro w9 hSw; (try dsimp only at hSw); go_simp
  simp only [Act.put, List.setIfInBounds_toArray, List.set_cons_zero, List.set_cons_succ]
  refine wpAnyH_ready (rs := [7]) (by kernel_rfl) (by simp) ?_
  refine AllReadyH.cons rfl (fun K hK => ?_) AllReadyH.nil
  go_simp
  refine (q2.out _ (bW0.trans (Below.mono d1 bW0.size))).mono ?_
  rintro e w2 ⟨rfl, hb2⟩
  have d2 : Below W0.heap.size W0 w2 := d1.trans (hb2.mono d1.size)
  clear hb2
  go_wp2_with fail
  refine hK.out _ _ (BX.out w2 d2) (fun hHeld2 => ?_)
  clear hK
  refine wpAnyH_take (i := 8) (v := .bool true) rfl (by kernel_rfl) (by kernel_rfl) (by kernel_rfl) (fun _ _ _ h => h) (Or.inl ⟨by kernel_rfl, ?_⟩) (by assumption) ?_
  · intro w9 hSw; (try dsimp only at hSw); go_simp
  simp only [Act.put, List.setIfInBounds_toArray, List.set_cons_zero, List.set_cons_succ]
  refine wpAnyH_take (i := 9) (v := .bool true) rfl (by kernel_rfl) (by kernel_rfl) (by kernel_rfl) (fun _ _ _ h => h) (Or.inl ⟨by kernel_rfl, ?_⟩) (by assumption) ?_
  · intro w9 hSw; (try dsimp only at hSw); go_simp
  simp only [Act.put, List.setIfInBounds_toArray, List.set_cons_zero, List.set_cons_succ]
  refine wpAnyH_take (i := 10) (v := .pointer (some ⟨w.heap.size, 4, none⟩)) rfl (by kernel_rfl) (by kernel_rfl) (by kernel_rfl) (fun _ _ _ h => h) (Or.inl ⟨by kernel_rfl, ?_⟩) (by assumption) ?_
  · intro w9 hSw; (try dsimp only at hSw); go_simp
  simp only [Act.put, List.setIfInBounds_toArray, List.set_cons_zero, List.set_cons_succ]
  refine wpAnyH_take (i := 11) (v := .slice a4 n4 c4) rfl (by kernel_rfl) (by kernel_rfl) (by kernel_rfl) (fun _ _ _ h => h) (Or.inl ⟨by kernel_rfl, ?_⟩) (by assumption) ?_
  · intro w9 hSw; (try dsimp only at hSw); go_simp
  simp only [Act.put, List.setIfInBounds_toArray, List.set_cons_zero, List.set_cons_succ]
  refine wpAnyH_ready (rs := [12]) (by kernel_rfl) (by simp) ?_
  refine AllReadyH.cons rfl (fun K hK => ?_) AllReadyH.nil
  go_simp
  refine (q3.out _ (bW0.trans (Below.mono d2 bW0.size))).mono ?_
  rintro e w3 ⟨rfl, hb3⟩
  have d3 : Below W0.heap.size W0 w3 := d2.trans (hb3.mono d2.size)
  clear hb3
  go_wp2_with fail
  refine hK.out _ _ (BX.out w3 d3) (fun hHeld3 => ?_)
  clear hK
  refine wpAnyH_take (i := 13) (v := .bool true) rfl (by kernel_rfl) (by kernel_rfl) (by kernel_rfl) (fun _ _ _ h => h) (Or.inl ⟨by kernel_rfl, ?_⟩) (by assumption) ?_
  · intro w9 hSw; (try dsimp only at hSw); go_simp
  simp only [Act.put, List.setIfInBounds_toArray, List.set_cons_zero, List.set_cons_succ]
  refine wpAnyH_take (i := 14) (v := .bool true) rfl (by kernel_rfl) (by kernel_rfl) (by kernel_rfl) (fun _ _ _ h => h) (Or.inl ⟨by kernel_rfl, ?_⟩) (by assumption) ?_
  · intro w9 hSw; (try dsimp only at hSw); go_simp
  simp only [Act.put, List.setIfInBounds_toArray, List.set_cons_zero, List.set_cons_succ]
  refine wpAnyH_take (i := 15) (v := .pointer (some ⟨w.heap.size, 4, none⟩)) rfl (by kernel_rfl) (by kernel_rfl) (by kernel_rfl) (fun _ _ _ h => h) (Or.inl ⟨by kernel_rfl, ?_⟩) (by assumption) ?_
  · intro w9 hSw; (try dsimp only at hSw); go_simp
  simp only [Act.put, List.setIfInBounds_toArray, List.set_cons_zero, List.set_cons_succ]
  refine wpAnyH_take (i := 16) (v := .slice a4 n4 c4) rfl (by kernel_rfl) (by kernel_rfl) (by kernel_rfl) (fun _ _ _ h => h) (Or.inl ⟨by kernel_rfl, ?_⟩) (by assumption) ?_
  · intro w9 hSw; (try dsimp only at hSw); go_simp
  simp only [Act.put, List.setIfInBounds_toArray, List.set_cons_zero, List.set_cons_succ]
  refine wpAnyH_take (i := 17) (v := .pointer (some ⟨w.heap.size, 5, none⟩)) rfl (by kernel_rfl) (by kernel_rfl) (by kernel_rfl) (fun _ _ _ h => h) (Or.inl ⟨by kernel_rfl, ?_⟩) (by assumption) ?_
  · intro w9 hSw; (try dsimp only at hSw); go_simp
  simp only [Act.put, List.setIfInBounds_toArray, List.set_cons_zero, List.set_cons_succ]
  refine wpAnyH_take (i := 18) (v := .slice a5 n5 c5) rfl (by kernel_rfl) (by kernel_rfl) (by kernel_rfl) (fun _ _ _ h => h) (Or.inl ⟨by kernel_rfl, ?_⟩) (by assumption) ?_
  · intro w9 hSw; (try dsimp only at hSw); go_simp
  simp only [Act.put, List.setIfInBounds_toArray, List.set_cons_zero, List.set_cons_succ]
  refine wpAnyH_ready (rs := [19]) (by kernel_rfl) (by simp) ?_
  refine AllReadyH.cons rfl (fun K hK => ?_) AllReadyH.nil
  go_simp
  refine (q4.out _ (bW0.trans (Below.mono d3 bW0.size))).mono ?_
  rintro e w4 ⟨rfl, hb4⟩
  have d4 : Below W0.heap.size W0 w4 := d3.trans (hb4.mono d3.size)
  clear hb4
  go_wp2_with fail
  refine hK.out _ _ (BX.out w4 d4) (fun hHeld4 => ?_)
  clear hK
  refine wpAnyH_take (i := 20) (v := .bool true) rfl (by kernel_rfl) (by kernel_rfl) (by kernel_rfl) (fun _ _ _ h => h) (Or.inl ⟨by kernel_rfl, ?_⟩) (by assumption) ?_
  · intro w9 hSw; (try dsimp only at hSw); go_simp
  simp only [Act.put, List.setIfInBounds_toArray, List.set_cons_zero, List.set_cons_succ]
  refine wpAnyH_take (i := 21) (v := .bool true) rfl (by kernel_rfl) (by kernel_rfl) (by kernel_rfl) (fun _ _ _ h => h) (Or.inl ⟨by kernel_rfl, ?_⟩) (by assumption) ?_
  · intro w9 hSw; (try dsimp only at hSw); go_simp
  simp only [Act.put, List.setIfInBounds_toArray, List.set_cons_zero, List.set_cons_succ]
  refine wpAnyH_take (i := 22) (v := .agg #[.int .i64 x0, .int .i64 x1, .int .i64 x2, .slice a3 n3 c3, .slice a4 n4 c4, .slice a5 n5 c5]) rfl (by kernel_rfl) (by kernel_rfl) (by kernel_rfl) (fun _ _ _ h => h) (Or.inl ⟨by kernel_rfl, ?_⟩) (by assumption) ?_
  · intro w9 hSw; (try dsimp only at hSw); go_simp
  simp only [Act.put, List.setIfInBounds_toArray, List.set_cons_zero, List.set_cons_succ]
  refine wpAnyH_ready (rs := [23]) (by kernel_rfl) (by simp) ?_
  refine AllReadyH.cons rfl (fun K hK => ?_) AllReadyH.nil
  go_simp
  refine (q5.out _ (bW0.trans (Below.mono d4 bW0.size))).mono ?_
  rintro e w5 ⟨rfl, hb5⟩
  have d5 : Below W0.heap.size W0 w5 := d4.trans (hb5.mono d4.size)
  clear hb5
  go_wp2_with fail
  refine hK.out _ _ (BX.out w5 d5) (fun hHeld5 => ?_)
  clear hK
  refine wpAnyH_take (i := 24) (v := .bool true) rfl (by kernel_rfl) (by kernel_rfl) (by kernel_rfl) (fun _ _ _ h => h) (Or.inl ⟨by kernel_rfl, ?_⟩) (by assumption) ?_
  · intro w9 hSw; (try dsimp only at hSw); go_simp
  simp only [Act.put, List.setIfInBounds_toArray, List.set_cons_zero, List.set_cons_succ]
  refine wpAnyH_take (i := 25) (v := .bool true) rfl (by kernel_rfl) (by kernel_rfl) (by kernel_rfl) (fun _ _ _ h => h) (Or.inl ⟨by kernel_rfl, ?_⟩) (by assumption) ?_
  · intro w9 hSw; (try dsimp only at hSw); go_simp
  simp only [Act.put, List.setIfInBounds_toArray, List.set_cons_zero, List.set_cons_succ]
  refine wpAnyH_take (i := 26) (v := .agg #[.int .i64 x0, .int .i64 x1, .int .i64 x2, .slice a3 n3 c3, .slice a4 n4 c4, .slice a5 n5 c5]) rfl (by kernel_rfl) (by kernel_rfl) (by kernel_rfl) (fun _ _ _ h => h) (Or.inl ⟨by kernel_rfl, ?_⟩) (by assumption) ?_
  · intro w9 hSw; (try dsimp only at hSw); go_simp
  simp only [Act.put, List.setIfInBounds_toArray, List.set_cons_zero, List.set_cons_succ]
  refine wpAnyH_take (i := 28) (v := .pointer (some ⟨w.heap.size, 0, none⟩)) rfl (by kernel_rfl) (by kernel_rfl) (by kernel_rfl) (fun _ _ _ h => h) (Or.inl ⟨by kernel_rfl, ?_⟩) (by assumption) ?_
  · intro w9 hSw; (try dsimp only at hSw); go_simp
  simp only [Act.put, List.setIfInBounds_toArray, List.set_cons_zero, List.set_cons_succ]
  refine wpAnyH_take (i := 29) (v := .int .i64 x0) rfl (by kernel_rfl) (by kernel_rfl) (by kernel_rfl) (fun _ _ _ h => h) (Or.inl ⟨by kernel_rfl, ?_⟩) (by assumption) ?_
  · intro w9 hSw; (try dsimp only at hSw); go_simp
  simp only [Act.put, List.setIfInBounds_toArray, List.set_cons_zero, List.set_cons_succ]
  refine wpAnyH_ready (rs := [27]) (by kernel_rfl) (by simp) ?_
  refine AllReadyH.cons rfl (fun K hK => ?_) AllReadyH.nil
  go_simp
  refine (q6.out _ (bW0.trans (Below.mono d5 bW0.size))).mono ?_
  rintro e w6 ⟨rfl, hb6⟩
  have d6 : Below W0.heap.size W0 w6 := d5.trans (hb6.mono d5.size)
  clear hb6
  go_wp2_with fail
  refine hK.out _ _ (BX.out w6 d6) (fun hHeld6 => ?_)
  clear hK
  refine wpAnyH_take (i := 30) (v := .bool (decide (U ≤ x0))) rfl (by kernel_rfl) (by kernel_rfl) (by kernel_rfl) (fun _ _ _ h => h) (Or.inl ⟨by kernel_rfl, ?_⟩) (by assumption) ?_
  · intro w9 hSw; (try dsimp only at hSw); go_simp
  simp only [Act.put, List.setIfInBounds_toArray, List.set_cons_zero, List.set_cons_succ]
  refine wpAnyH_take (i := 31) (v := .bool (decide (U ≤ x0))) rfl (by kernel_rfl) (by kernel_rfl) (by kernel_rfl) (fun _ _ _ h => h) (Or.inl ⟨by kernel_rfl, ?_⟩) (by assumption) ?_
  · intro w9 hSw; (try dsimp only at hSw); go_simp
  simp only [Act.put, List.getElem_toArray, List.getElem_cons_succ, List.getElem_cons_zero, List.setIfInBounds_toArray, List.set_cons_zero, List.set_cons_succ]
  refine wpAnyH_take (i := 32) (v := .bool (decide (U ≤ x0))) rfl (by kernel_rfl) (by kernel_rfl) (by kernel_rfl) (fun _ _ _ h => h) (Or.inl ⟨by kernel_rfl, ?_⟩) (by assumption) ?_
  · intro w9 hSw; (try dsimp only at hSw); go_simp
  simp only [Act.put, List.getElem_toArray, List.getElem_cons_succ, List.getElem_cons_zero, List.setIfInBounds_toArray, List.set_cons_zero, List.set_cons_succ]
  refine wpAnyH_done (by kernel_rfl) ?_ _
  have bE := bW0.trans (d6.mono bW0.size)
  go_wp2
  go_ret
  exact ⟨by rw [EE.out]; rfl, bE⟩

end Go.Proofs.YtkaegbhmeonjfaaGreat

/- DOkE: The two tests of a disk are one: the model's and the program's, in plain terms. -/
namespace Go.Proofs.YtkaegbhmeonjfaaGreat
set_option linter.unusedVariables false
set_option maxRecDepth 100000

theorem sortN_perm (l : List Int) : (sortN l).Perm l := List.mergeSort_perm _ _

theorem sortN_sorted (l : List Int) : (sortN l).Pairwise fun x y => x ≤ y := by
  have h := List.pairwise_mergeSort (le := fun x y : Int => decide (x ≤ y)) (fun a b c h1 h2 => by simp at *; omega) (fun a b => by simp; omega) l
  exact h.imp (fun {a b} h => by simpa using h)

theorem sorted_unique : ∀ {l m : List Int}, l.Perm m → l.Pairwise (fun x y => x ≤ y) → m.Pairwise (fun x y => x ≤ y) → l = m := by
  intro l m hp h1 h2
  exact hp.eq_of_pairwise (fun a b _ _ h h' => Int.le_antisymm h h') h1 h2

/-- The nodes' Ids rise. -/
theorem nodeIds_rise {l : List NodeD} {next : Int} (h : nodesTo l next l.length) : (nodeIds l).Pairwise fun x y => x < y := by
  rw [List.pairwise_iff_getElem]
  have key : ∀ (n i : Nat) (hi : i < l.length) (hn : i + (n + 1) < l.length), (l[i]).1 < (l[i + (n + 1)]).1 := by
    intro n
    induction n with
    | zero => intro i hi hn; exact (h (i + 1) hn hn).2.2 i hi rfl
    | succ n ih =>
      intro i hi hn
      have h1 := ih i hi (by omega)
      have h2 := (h (i + (n + 1) + 1) hn hn).2.2 (i + (n + 1)) (by omega) rfl
      exact Int.lt_trans h1 h2
  intro i j hi hj hij
  have hi' : i < l.length := by simpa [nodeIds] using hi
  have hj' : j < l.length := by simpa [nodeIds] using hj
  obtain ⟨n, rfl⟩ : ∃ n, j = i + (n + 1) := ⟨j - i - 1, by omega⟩
  have := key n i hi' hj'
  simpa [nodeIds] using this

theorem nodup_of_rise {l : List Int} (h : l.Pairwise fun x y => x < y) : l.Nodup := h.imp (fun {a b} h => by omega)

theorem hasN_iff (l : List Int) (x : Int) : hasN l x = true ↔ x ∈ l := by simp [hasN]
theorem hasN_not (l : List Int) (x : Int) : hasN l x = false ↔ x ∉ l := by simp [hasN]

theorem idsTo_nodup {ids nodes : List Int} (h : idsTo ids nodes ids.length) : ids.Nodup ∧ ∀ x ∈ ids, x ∈ nodes := by
  refine ⟨?_, fun x hx => ?_⟩
  · rw [List.nodup_iff_pairwise_ne, List.pairwise_iff_getElem]
    intro i j hi hj hij e
    have h1 := (hasN_not _ _).1 (h j hj hj).1
    apply h1
    rw [← e]
    exact List.mem_take_iff_getElem.2 ⟨i, by omega, rfl⟩
  · obtain ⟨i, hi, rfl⟩ := List.mem_iff_getElem.1 hx
    exact (hasN_iff _ _).1 (h i hi hi).2

theorem perm_of : ∀ {ids nodes : List Int}, ids.Nodup → (∀ x ∈ ids, x ∈ nodes) → ids.length = nodes.length → ids.Perm nodes
  | [], nodes, _, _, hl => by
    have : nodes = [] := List.eq_nil_of_length_eq_zero hl.symm
    rw [this]
  | a :: ids, nodes, hn, hs, hl => by
    have ha : a ∈ nodes := hs a List.mem_cons_self
    have hp := List.perm_cons_erase ha
    obtain ⟨hna, hn'⟩ := List.nodup_cons.1 hn
    have hlen := List.length_erase_of_mem ha
    have ih : ids.Perm (nodes.erase a) := by
      refine perm_of hn' (fun x hx => ?_) (by simp only [List.length_cons] at hl; omega)
      have hne : x ≠ a := fun e => hna (by rw [← e]; exact hx)
      exact (List.mem_erase_of_ne hne).2 (hs x (List.mem_cons_of_mem _ hx))
    exact (ih.cons a).trans hp.symm

/-- Ids that are those of the nodes. -/
theorem ids_iff {ids : List Int} {nd : List NodeD} {next : Int} (hn : nodesTo nd next nd.length) : (ids.length = nd.length ∧ idsTo ids (nodeIds nd) ids.length) ↔ sortN ids = nodeIds nd := by
  have hr := nodeIds_rise hn
  have hlen : (nodeIds nd).length = nd.length := by simp [nodeIds]
  constructor
  · rintro ⟨h1, h2⟩
    obtain ⟨h3, h4⟩ := idsTo_nodup h2
    have hp := perm_of h3 h4 (by omega)
    exact sorted_unique ((sortN_perm ids).trans hp) (sortN_sorted ids) (hr.imp (fun {a b} h => by omega))
  · intro e
    have hp : ids.Perm (nodeIds nd) := by rw [← e]; exact (sortN_perm ids).symm
    have hl := hp.length_eq
    refine ⟨by omega, fun i hi _ => ⟨?_, ?_⟩⟩
    · rw [hasN_not]
      intro hm
      have hnd : ids.Nodup := hp.nodup_iff.2 (nodup_of_rise hr)
      rw [List.nodup_iff_pairwise_ne, List.pairwise_iff_getElem] at hnd
      obtain ⟨j, hj, e2⟩ := List.mem_take_iff_getElem.1 hm
      exact hnd j i (by omega) hi (by omega) e2
    · rw [hasN_iff]
      exact hp.mem_iff.1 (List.getElem_mem hi)

theorem alike_rev {l : List LinkD} (h : namesTo l l.length) : Alike l l.reverse := by
  have key : ∀ (n i : Nat) (hi : i < l.length) (hn : i + (n + 1) < l.length), ltS (l[i]).1 (l[i + (n + 1)]).1 = true := by
    intro n
    induction n with
    | zero => intro i hi hn; exact (h (i + 1) hn hn).2 i hi rfl
    | succ n ih =>
      intro i hi hn
      exact ltS_trans (ih i hi (by omega)) ((h (i + (n + 1) + 1) hn hn).2 (i + (n + 1)) (by omega) rfl)
  have hp : l.Pairwise fun x y => x.1 ≠ y.1 := by
    rw [List.pairwise_iff_getElem]
    intro i j hi hj hij
    obtain ⟨n, rfl⟩ : ∃ n, j = i + (n + 1) := ⟨j - i - 1, by omega⟩
    exact ltS_ne (key n i hi hj)
  have hfind : ∀ (m : List LinkD) (x : LinkD), m.Pairwise (fun x y => x.1 ≠ y.1) → x ∈ m → findL m x.1 = x.2.1 := by
    intro m
    induction m with
    | nil => intro x _ hx; cases hx
    | cons y m ih =>
      intro x hm hx
      rw [findL_cons]
      rcases List.mem_cons.1 hx with rfl | hx
      · simp
      · have := (List.pairwise_cons.1 hm).1 x hx
        rw [if_neg this]
        exact ih x (List.pairwise_cons.1 hm).2 hx
  have hpr : l.reverse.Pairwise fun x y => x.1 ≠ y.1 := by
    rw [List.pairwise_reverse]
    exact hp.imp (fun {a b} h => Ne.symm h)
  intro s
  have hh : hasL l s = hasL l.reverse s := by unfold hasL; rw [List.any_reverse]
  refine ⟨hh, ?_⟩
  cases e : hasL l s with
  | false => rw [findL_none e, findL_none (by rw [← hh]; exact e)]
  | true =>
    unfold hasL at e
    obtain ⟨x, hx, hs⟩ := List.any_eq_true.1 e
    have hs : x.1 = s := by simpa using hs
    subst hs
    rw [hfind l x hp hx, hfind l.reverse x hpr (List.mem_reverse.2 hx)]

theorem mem_ids_kept {kp : List LinkD} {tn : List TurnD} {x : LinkD} (h : x ∈ kp) : x.2.1 ∈ idsL kp tn := by
  unfold idsL
  exact List.mem_append_left _ (List.mem_map.2 ⟨x, h, rfl⟩)
theorem mem_ids_made {kp : List LinkD} {tn : List TurnD} {t : TurnD} (h : t ∈ tn) (hk : t.1 = 1) : t.2.2.2.1 ∈ idsL kp tn := by
  unfold idsL
  exact List.mem_append_right _ (List.mem_map.2 ⟨t, List.mem_filter.2 ⟨h, by simpa using hk⟩, rfl⟩)
theorem nodeIds_pos {l : List NodeD} {next : Int} (h : nodesTo l next l.length) {x : Int} (hx : x ∈ nodeIds l) : 1 ≤ x := by
  unfold nodeIds at hx
  obtain ⟨y, hy, rfl⟩ := List.mem_map.1 hx
  obtain ⟨i, hi, rfl⟩ := List.mem_iff_getElem.1 hy
  exact (h i hi hi).1

/-- The plain heart of it. -/
theorem ok_iff (nd : List NodeD) (kp : List LinkD) (tn : List TurnD) (next : Int) :
    ((nd.length ≤ 8 ∧ kp.length ≤ 8 ∧ tn.length ≤ 40) ∧ nodesTo nd next nd.length ∧ keptTo kp kp.length ∧ (idsL kp tn).length = nd.length ∧ idsTo (idsL kp tn) (nodeIds nd) (idsL kp tn).length ∧ turnsOkL kp tn) ↔
    ((nodesTo nd next nd.length ∧ nd.length ≤ 8) ∧ namesTo kp kp.length ∧ (tn.length ≤ 40 ∧ turnsOkI kp.reverse tn) ∧ sortN (idsL kp tn) = nodeIds nd) := by
  constructor
  · rintro ⟨⟨l3, l4, l5⟩, hn, hk, hl, hi, ht⟩
    have hnm : namesTo kp kp.length := fun i h1 h2 => ⟨(hk i h1 h2).1, (hk i h1 h2).2.2⟩
    have hpos : Pos kp := by
      intro x hx
      obtain ⟨i, h1, rfl⟩ := List.mem_iff_getElem.1 hx
      have := (hk i h1 h1).2.1
      omega
    exact ⟨⟨hn, l3⟩, hnm, ⟨l5, ((turnsOk_iff (alike_rev hnm) hpos).1 ht).1⟩, (ids_iff hn).1 ⟨hl, hi⟩⟩
  · rintro ⟨⟨hn, l3⟩, hnm, ⟨l5, ht⟩, he⟩
    obtain ⟨hl, hi⟩ := (ids_iff hn).2 he
    have hin : ∀ x ∈ idsL kp tn, 1 ≤ x := fun x hx => nodeIds_pos hn ((idsTo_nodup hi).2 x hx)
    have hk1 : ∀ x ∈ kp, 1 ≤ x.2.1 := fun x hx => hin _ (mem_ids_kept hx)
    have hpos : Pos kp := fun x hx => by have := hk1 x hx; omega
    have l4 : kp.length ≤ 8 := by
      have : kp.length ≤ (idsL kp tn).length := by unfold idsL; rw [List.length_append, List.length_map]; omega
      omega
    refine ⟨⟨l3, l4, l5⟩, hn, fun i h1 h2 => ⟨(hnm i h1 h2).1, hk1 _ (List.getElem_mem h1), (hnm i h1 h2).2⟩, hl, hi, (turnsOk_iff (alike_rev hnm) hpos).2 ⟨ht, fun t ht' hk => ?_⟩⟩
    have := hin _ (mem_ids_made (kp := kp) ht' hk)
    omega

theorem ok_same (d : shDisk.D) : specOkP d ↔ implOkB d = true := by
  have h := ok_iff d.2.2.2.1 d.2.2.2.2.1 d.2.2.2.2.2.1 d.2.2.1
  unfold implOkB
  unfold specOkP limitsP limB leB
  simp only [Bool.and_eq_true, decide_eq_true_eq]
  constructor
  · rintro ⟨⟨a0, a1, a2, a3, a4, a5, a6, a7, a8⟩, hn, hk, hl, hi, ht, hu⟩
    obtain ⟨b1, b2, b3, b4⟩ := h.1 ⟨⟨a6, a7, a8⟩, hn, hk, hl, hi, ht⟩
    exact ⟨⟨⟨⟨⟨⟨⟨⟨⟨⟨a0, a1⟩, a2⟩, a3⟩, a4⟩, a5⟩, (nodesIB_iff _ _).2 b1⟩, (keptIB_iff _).2 b2⟩, (turnsIB_iff _ _).2 b3⟩, b4⟩, hu⟩
  · rintro ⟨⟨⟨⟨⟨⟨⟨⟨⟨⟨a0, a1⟩, a2⟩, a3⟩, a4⟩, a5⟩, b1⟩, b2⟩, b3⟩, b4⟩, hu⟩
    obtain ⟨⟨a6, a7, a8⟩, hn, hk, hl, hi, ht⟩ := h.2 ⟨(nodesIB_iff _ _).1 b1, (keptIB_iff _).1 b2, (turnsIB_iff _ _).1 b3, b4⟩
    exact ⟨⟨a0, a1, a2, a3, a4, a5, a6, a7, a8⟩, hn, hk, hl, hi, ht, hu⟩

end Go.Proofs.YtkaegbhmeonjfaaGreat

/- MkLink: The marks of the type Link. By program (mkgen.py). -/
namespace Go.Proofs.YtkaegbhmeonjfaaGreat
open Go.RowKit
set_option linter.unusedVariables false
set_option maxRecDepth 100000

theorem openO_Link {w : World} {B : Nat} {cs : List Value} {d : shLink.D} {F : List Nat} (h : Own shLink w B cs d F) :
    cs = [.string (d.1), .int .i64 (d.2.1)] ∧ F = [] := by
  obtain ⟨_, _, G0, _, rfl, rfl, h0, _, _, G1, _, rfl, rfl, h1, hE⟩ := h
  obtain ⟨⟨rfl, _⟩, rfl⟩ := h0
  obtain ⟨rfl, rfl⟩ := h1
  obtain ⟨rfl, rfl⟩ := hE
  exact ⟨rfl, by simp⟩

theorem cnt_Link (d : shLink.D) : shLink.cnt d = 1 + 1 := by
  show 1 + (1 + (0)) = _
  omega

set_option maxRecDepth 100000 in
set_option maxHeartbeats 2000000 in
theorem markLinkS_own (a : Option Addr) (n cap B k : Nat) (d : List shLink.D) (F : List Nat) (w : World) (ho : Own (.sl shLink) w B [.slice a n cap] d F) (hnd : F.Nodup) (hk0 : 1 ≤ k) (hk : k + Sh.cnt (.sl shLink) d ≤ 1000000000000) :
    Calls Tryz.prog 49 #[.slice a n cap, .int .i64 k] w fun e w' => e = .returned (.int .i64 ((k + Sh.cnt (.sl shLink) d : Nat) : Int)) ∧ Own (.sl shLink) w' B [.slice a n cap] (Sh.mk (.sl shLink) d k) F ∧ Touch w w' F := by
  obtain ⟨hl, hm, hg⟩ := own_len ho
  obtain ⟨C, hC⟩ : ∃ C, C = Sh.cnt (.sl shLink) d := ⟨_, rfl⟩
  rw [← hC] at hk ⊢
  have HO : Hid (Own (.sl shLink) w B [.slice a n cap] d F ∧ F.Nodup) := ⟨ho, hnd⟩
  have HL : Hid (d.length = n ∧ C = Sh.cnt (.sl shLink) d) := ⟨hl, hC⟩
  clear ho hnd hl hC
  unfold maxLen at hm
  go_enter Tryz.func49, Tryz.ntmps49
  go_wp2
  go_loopw [1, 5] (fun m i wr => ∃ j kk : Nat, j ≤ n ∧ m = .int .i64 (kk : Int) ∧ i = .int .i64 j ∧ Hid (kk = k + cntTo shLink d j) ∧ 1 ≤ kk ∧ Hid (Own (.sl shLink) wr B [.slice a n cap] (mkTo shLink d k j) F) ∧ Touch w wr F) (fun _ i _ => n - (intOf i).toNat)
  case atStart => exact ⟨0, k, Nat.zero_le _, rfl, rfl, by show k = _; rw [cntTo_zero]; rfl, hk0, by show Own _ _ _ _ _ _; rw [mkTo_zero]; exact HO.out.1, Touch.refl _ _⟩
  case round =>
    obtain ⟨j, kk, hj, rfl, rfl, hkk, hkk1, ho, ht⟩ := hrel
    by_cases hlt : j < n
    · obtain ⟨g, rfl⟩ := hg.resolve_left (by omega)
      obtain ⟨t, cur, c, x, f, hh, hx, hoe, hnf, hgf, hfF, hgF, hBg, hcur, hclose⟩ := own_elem ho.out HO.out.2 j hlt
      have hxd : shLink.at d j = some x := by
        have h1 : j < d.length := by rw [HL.out.1]; exact hlt
        have h2 : shLink.at d j = some d[j] := List.getElem?_eq_getElem h1
        have h3 := mkTo_at shLink d k j _ h2
        rw [h2, ← h3]; exact hx
      have hsucc := cntTo_succ shLink d j x hxd
      have hle := cntTo_le shLink d (j + 1)
      have hms := mkTo_set shLink d k j x hxd
      rw [← hkk.out] at hms
      rw [cnt_Link] at hsucc
      obtain ⟨rfl, rfl⟩ := openO_Link hoe
      have hkn : kk + (1 + 1) ≤ 1000000000000 := by have h1 := hkk.out; have h2 := HL.out.2; rw [← h2] at hle; omega
      have HK : Hid (kk + (1 + 1) = k + cntTo shLink d (j + 1)) := by show _ = _; rw [hsucc, hkk.out]; omega
      have hq0 : cur[j * 2]? = some (.string (x.1)) := hcur 0 (by decide)
      have hq1 : cur[j * 2 + 1]? = some (.int .i64 (x.2.1)) := hcur 1 (by decide)
      have HQ : Hid (cur[j * 2]? = some (.string (x.1)) ∧ cur[j * 2 + 1]? = some (.int .i64 (x.2.1)) ∧ True) := ⟨hq0, hq1, trivial⟩
      have qc0 : Hid (∀ w' : World, Calls Tryz.prog 72 #[.int .i64 ((kk : Int))] w' fun e w'' => e = .returned (.string (mtext (kk))) ∧ Below w'.heap.size w' w'') := fun w' => by
        have e : (((kk : Nat)) : Int) = (kk : Int) := by omega
        rw [← e]
        exact markText_any (kk) w' (by omega) (by omega)
      obtain ⟨T0, hT0⟩ : ∃ T, T = mtext (kk) := ⟨_, rfl⟩
      have HT0 : Hid (T0 = mtext (kk)) := hT0
      rw [← hT0] at qc0
      clear hT0
      have HGN : Hid (True) := trivial
      have HMS : Hid (List.set (mkTo shLink d k j) j (shLink.mk x kk) = mkTo shLink d k (j + 1)) := hms
      have HCL : Hid (∀ (w2 : World) (c' : List Value) (x' : shLink.D), Own shLink w2 B c' x' ([]) → w2.heap[g]? = some (.cells (setRow cur.toList (j * shLink.size) c').toArray t (0, 0)) → (∀ y ∈ F, y ≠ g → y ∉ [] → w2.heap[y]? = wr.heap[y]?) → Own (.sl shLink) w2 B [.slice (some ⟨g, 0, none⟩) n cap] (List.set (mkTo shLink d k j) j x') F) := hclose
      obtain ⟨uwr_0, ywr_0⟩ : ∃ u, wr.cell? ⟨g, j * 2, none⟩ = some u := ⟨_, box_cell hh (by exact HQ.out.1)⟩
      have yfwr_0 : wr.frozen? ⟨g, j * 2, none⟩ = false := box_frozen hh
      obtain ⟨uwr_1, ywr_1⟩ : ∃ u, wr.cell? ⟨g, j * 2 + 1, none⟩ = some u := ⟨_, box_cell hh (by exact HQ.out.2.1)⟩
      have yfwr_1 : wr.frozen? ⟨g, j * 2 + 1, none⟩ = false := box_frozen hh
      clear hms hclose hcur hsucc hle hx hxd hoe hgf hq0 hq1
      go_wp2_with fail
      refine (qc0.out _).mono ?_
      rintro e w0 ⟨rfl, hb0⟩
      have tb0 : Touch wr w0 F := Touch.of_below hb0 F
      have hhw0 : w0.heap[g]? = some (.cells (cur) t (0, 0)) := (hb0.block g (lt_heap hh)).trans hh
      have rw0 : Hid (∀ y ∈ F, y ≠ g → y ∉ [] → w0.heap[y]? = wr.heap[y]?) := fun y hy hyg hyf => (hb0.block y (Nat.lt_of_lt_of_le (ho.out.lt y hy).2 (Nat.le_refl _))).trans (rfl)
      have zw0 : wr.heap.size ≤ w0.heap.size := Nat.le_trans (Nat.le_refl _) hb0.size
      have tw0 : Touch w w0 F := ht.trans tb0
      obtain ⟨uw0_0, yw0_0⟩ : ∃ u, w0.cell? ⟨g, j * 2, none⟩ = some u := ⟨_, box_cell hhw0 (by exact HQ.out.1)⟩
      have yfw0_0 : w0.frozen? ⟨g, j * 2, none⟩ = false := box_frozen hhw0
      obtain ⟨uw0_1, yw0_1⟩ : ∃ u, w0.cell? ⟨g, j * 2 + 1, none⟩ = some u := ⟨_, box_cell hhw0 (by exact HQ.out.2.1)⟩
      have yfw0_1 : w0.frozen? ⟨g, j * 2 + 1, none⟩ = false := box_frozen hhw0
      have hfin : Own (.sl shLink) (((w0).setCell ⟨g, j * 2, none⟩ (.string T0)).setCell ⟨g, j * 2 + 1, none⟩ (.int .i64 ((kk : Int) + 1))) B [.slice (some ⟨g, 0, none⟩) n cap] (mkTo shLink d k (j + 1)) F := by
        rw [← HMS.out]
        have l0 : Value.string T0 = Value.string (mtext (kk)) := by rw [HT0.out]
        have l1 : Value.int .i64 ((kk : Int) + 1) = Value.int .i64 (((kk + 1 : Nat)) : Int) := by congr 1 <;> omega
        refine HCL.out _ [.string T0, .int .i64 ((kk : Int) + 1)] _ ?_ ?_ ?_
        · have hb : Own shLink (((w0).setCell ⟨g, j * 2, none⟩ (.string T0)).setCell ⟨g, j * 2 + 1, none⟩ (.int .i64 ((kk : Int) + 1))) B [.string (mtext (kk)), .int .i64 (((kk + 1 : Nat)) : Int)] (shLink.mk x kk) ([]) := own_Link (w := ((w0).setCell ⟨g, j * 2, none⟩ (.string T0)).setCell ⟨g, j * 2 + 1, none⟩ (.int .i64 ((kk : Int) + 1))) (B := B) (d := shLink.mk x kk) (mtext_le _)
          rw [l0, l1]
          exact hb
        · rw [show (((w0).setCell ⟨g, j * 2, none⟩ (.string T0)).setCell ⟨g, j * 2 + 1, none⟩ (.int .i64 ((kk : Int) + 1))).heap[g]? = some (.cells (((cur).setIfInBounds (j * 2) (.string T0)).setIfInBounds (j * 2 + 1) (.int .i64 ((kk : Int) + 1))) t (0, 0)) from box_set (j := j * 2 + 1) (.int .i64 ((kk : Int) + 1)) (box_set (j := j * 2) (.string T0) (hhw0))]
          congr 2
          apply Array.ext'
          simp only [Array.toList_setIfInBounds]
          show _ = setRow cur.toList (j * 2) [.string T0, .int .i64 ((kk : Int) + 1)]
          rw [setRow]
          rw [setRow]
          all_goals (first | rfl | (rw [setRow]; all_goals rfl))
        · intro y hy hyg hyf; exact ((box_other _ hyg).trans ((box_other _ hyg).trans (rw0.out y hy hyg hyf)))
      have HFIN : Hid (Own (.sl shLink) (((w0).setCell ⟨g, j * 2, none⟩ (.string T0)).setCell ⟨g, j * 2 + 1, none⟩ (.int .i64 ((kk : Int) + 1))) B [.slice (some ⟨g, 0, none⟩) n cap] (mkTo shLink d k (j + 1)) F ∧ Touch w (((w0).setCell ⟨g, j * 2, none⟩ (.string T0)).setCell ⟨g, j * 2 + 1, none⟩ (.int .i64 ((kk : Int) + 1))) F) := ⟨hfin, ((tw0.trans (Touch.set _ g _ _ hgF)).trans (Touch.set _ g _ _ hgF))⟩
      clear hfin tw0 hhw0 
      go_wp2
      go_roundw
      case rel => exact ⟨j + 1, kk + (1 + 1), by omega, by congr 1 <;> omega, by go_num, HK.out, by omega, HFIN.out.1, HFIN.out.2⟩
      case measure => simp [intOf]; omega
    · have e : j = n := by omega
      subst e
      have hfin : Own (.sl shLink) wr B [.slice a j cap] (Sh.mk (.sl shLink) d k) F := (congrArg (fun z => Own (.sl shLink) wr B [.slice a j cap] z F) (mkTo_all shLink d k j (Nat.le_of_eq HL.out.1))).mp ho.out
      have hke : kk = k + C := by rw [hkk.out, HL.out.2, cntTo_all shLink d j (Nat.le_of_eq HL.out.1)]
      have HH : Hid (Own (.sl shLink) wr B [.slice a j cap] (Sh.mk (.sl shLink) d k) F ∧ kk = k + C) := ⟨hfin, hke⟩
      clear hfin ho hke hkk
      go_wp2
      go_ret
      exact ⟨by rw [← HH.out.2]; rfl, HH.out.1, ht⟩

set_option maxRecDepth 100000 in
set_option maxHeartbeats 2000000 in
theorem heldLinkS_own (a : Option Addr) (n cap B k : Nat) (d : List shLink.D) (F : List Nat) (w : World) (ho : Own (.sl shLink) w B [.slice a n cap] (Sh.mk (.sl shLink) d k) F) (hnd : F.Nodup) (hk0 : 1 ≤ k) (hk : k + Sh.cnt (.sl shLink) d ≤ 1000000000000) :
    Calls Tryz.prog 52 #[.slice a n cap, .int .i64 k] w fun e w' => e = .returned (.int .i64 ((k + Sh.cnt (.sl shLink) d : Nat) : Int)) ∧ Below w.heap.size w w' := by
  obtain ⟨hl0, hm, hg⟩ := own_len ho
  have hl : d.length = n := by rw [← hl0]; exact (mkRow_length _ _ _ _).symm
  obtain ⟨C, hC⟩ : ∃ C, C = Sh.cnt (.sl shLink) d := ⟨_, rfl⟩
  rw [← hC] at hk ⊢
  have HO : Hid (Own (.sl shLink) w B [.slice a n cap] (Sh.mk (.sl shLink) d k) F ∧ F.Nodup) := ⟨ho, hnd⟩
  have HL : Hid (d.length = n ∧ C = Sh.cnt (.sl shLink) d) := ⟨hl, hC⟩
  clear ho hnd hl hl0 hC
  unfold maxLen at hm
  go_enter Tryz.func52, Tryz.ntmps52
  go_wp2
  go_loopw [1, 5] (fun m i wr => ∃ j kk : Nat, j ≤ n ∧ m = .int .i64 (kk : Int) ∧ i = .int .i64 j ∧ Hid (kk = k + cntTo shLink d j) ∧ 1 ≤ kk ∧ Below w.heap.size w wr) (fun _ i _ => n - (intOf i).toNat)
  case atStart => exact ⟨0, k, Nat.zero_le _, rfl, rfl, by show k = _; rw [cntTo_zero]; rfl, hk0, Below.refl _ _⟩
  case round =>
    obtain ⟨j, kk, hj, rfl, rfl, hkk, hkk1, hbel⟩ := hrel
    by_cases hlt : j < n
    · obtain ⟨g, rfl⟩ := hg.resolve_left (by omega)
      obtain ⟨t, cur, c, x', f, hh, hx', hoe, hnf, hgf, hfF, hgF, hBg, hcur, -⟩ := own_elem HO.out.1 HO.out.2 j hlt
      have hjd : j < d.length := by rw [HL.out.1]; exact hlt
      obtain ⟨x, hxe⟩ : ∃ x, x = d[j] := ⟨_, rfl⟩
      have hxd : shLink.at d j = some x := by rw [hxe]; exact List.getElem?_eq_getElem hjd
      have hxm := mk_at shLink d k j x hxd
      rw [← hkk.out] at hxm
      obtain rfl : shLink.mk x kk = x' := Option.some.inj (hxm.symm.trans hx')
      have hsucc := cntTo_succ shLink d j x hxd
      have hle := cntTo_le shLink d (j + 1)
      rw [cnt_Link] at hsucc
      have hglt := lt_heap hh
      obtain ⟨rfl, rfl⟩ := openO_Link hoe
      have hkn : kk + (1 + 1) ≤ 1000000000000 := by have h1 := hkk.out; have h2 := HL.out.2; rw [← h2] at hle; omega
      have HK : Hid (kk + (1 + 1) = k + cntTo shLink d (j + 1)) := by show _ = _; rw [hsucc, hkk.out]; omega
      obtain ⟨T0, hT0⟩ : ∃ T, T = mtext (kk) := ⟨_, rfl⟩
      have qc0 : Hid (∀ w' : World, Calls Tryz.prog 72 #[.int .i64 ((kk : Int))] w' fun e w'' => e = .returned (.string T0) ∧ Below w'.heap.size w' w'') := fun w' => by
        have e : (((kk : Nat)) : Int) = (kk : Int) := by omega
        rw [← e, hT0]
        exact markText_any (kk) w' (by omega) (by omega)
      have e0 : Value.string (mtext (kk)) = Value.string T0 := by rw [hT0]
      have cw0 : w.cell? ⟨g, j * 2, none⟩ = some (.string T0) := (box_cell hh (hcur 0 (by decide))).trans (congrArg some e0)
      have ne0 : (T0.toList != T0.toList) = false := by simp
      have e1 : Value.int .i64 (((kk + 1 : Nat)) : Int) = Value.int .i64 ((kk : Int) + 1) := by congr 1 <;> omega
      have cw1 : w.cell? ⟨g, j * 2 + 1, none⟩ = some (.int .i64 ((kk : Int) + 1)) := (box_cell hh (hcur 1 (by decide))).trans (congrArg some e1)
      have ne1 : (((kk : Int) + 1) != ((kk : Int) + 1)) = false := by simp
      clear hh hx' hoe hnf hgf hfF hgF hBg hcur hxd hxm hsucc hle hxe e0 e1 hT0
      have HCW : Hid (w.cell? ⟨g, j * 2, none⟩ = some (.string T0) ∧ w.cell? ⟨g, j * 2 + 1, none⟩ = some (.int .i64 ((kk : Int) + 1)) ∧ True) := ⟨cw0, cw1, trivial⟩
      clear cw0 cw1
      have ywr_0 : wr.cell? ⟨g, j * 2, none⟩ = _ := (hbel.cell (p := ⟨g, j * 2, none⟩) hglt).trans HCW.out.1
      have ywr_1 : wr.cell? ⟨g, j * 2 + 1, none⟩ = _ := (hbel.cell (p := ⟨g, j * 2 + 1, none⟩) hglt).trans HCW.out.2.1
      go_wp2_with fail
      have zz0 := hbel.size
      go_region_held (fun w' => w'.cell? ⟨g, j * 2, none⟩ = some (.string T0))
        (first | go_keep | (refine (hb0.cell (p := ⟨g, j * 2, none⟩) (by simp; omega)).trans ?_; assumption))
        ((go_at_call 72; refine (qc0.out _).mono ?_; rintro e w0 ⟨rfl, hb0⟩))
      have b0 := hbel.drew.trans (hb0.mono hbel.drew.size)
      have yw0_1 : w0.cell? ⟨g, j * 2 + 1, none⟩ = _ := (b0.cell (p := ⟨g, j * 2 + 1, none⟩) hglt).trans HCW.out.2.1
      clear hb0
      go_wp2
      go_roundw
      case rel => exact ⟨j + 1, kk + (1 + 1), by omega, by congr 1 <;> omega, by go_num, HK.out, by omega, b0⟩
      case measure => simp [intOf]; omega
    · have e : j = n := by omega
      subst e
      have hke : kk = k + C := by rw [hkk.out, HL.out.2, cntTo_all shLink d j (Nat.le_of_eq HL.out.1)]
      have HH : Hid (kk = k + C) := hke
      clear hke hkk
      go_wp2
      go_ret
      exact ⟨by rw [← HH.out]; rfl, hbel⟩

end Go.Proofs.YtkaegbhmeonjfaaGreat
