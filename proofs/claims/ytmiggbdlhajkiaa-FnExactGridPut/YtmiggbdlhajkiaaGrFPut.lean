/-
  GridPut of the program, over the contract of its sheet's method. By program (grfgen.py).
-/
import Derived.Test.YtmiggbdlhajkiaaGrJ
import Derived.Test.YtmiggbdlhajkiaaGrV
namespace Go.Proofs.Ytmiggbdlhajkiaa
open Go.RowKit
set_option linter.unusedVariables false
set_option linter.unusedSimpArgs false

set_option maxRecDepth 100000 in
set_option maxHeartbeats 4000000 in
theorem implGridPut_over (x0 x1 x3 x4 : Int) (a : Option Addr) (n c : Nat) (x5 : Bool) (zs : List Int) (x : Int) (Y3 Y4 : Int) (Y5 : Bool) (zN : List Int) (R : GrD) (hR : R = ansG (x0, x1, zs, x3, x4, x5, ()) (x0, x1, zN, Y3, Y4, Y5, ())) (w : World) (hr : Reads (.sl .int) w [.slice a n c] zs)
    (hz : gokB (x0, x1, zs, x3, x4, x5, ()) = true → zN.length = n ∧ ∀ i, i < n → -1 ≤ at0 zN i ∧ at0 zN i ≤ 1114111)
    (hM : gokB (x0, x1, zs, x3, x4, x5, ()) = true → ∀ w' B p g, SheetAt w' B p g n x0 x1 x3 x4 x5 (up (-32) zs) → Calls Try.prog 24 #[.pointer (some ⟨p, 0, none⟩), .int .i64 x] w' fun e w'' => e = .returned (.tuple #[]) ∧ SheetAt w'' B p g n x0 x1 Y3 Y4 Y5 (up (-32) zN) ∧ Touch w' w'' [p, g]) :
    Calls Try.prog 8 #[.agg #[.int .i64 x0, .int .i64 x1, .slice a n c, .int .i64 x3, .int .i64 x4, .bool x5], .int .i64 x] w fun e w' => ∃ o F, e = .returned (.agg o.toArray) ∧ Own shGrid w' w.heap.size o R F ∧ F.Nodup ∧ Below w.heap.size w w' := by
  have HRR : Hid (R = _) := hR
  clear hR
  obtain ⟨hl, hrd, hc, hm⟩ := reads_ints hr
  unfold maxLen at hm
  obtain ⟨W1, hW1⟩ : ∃ W, W = (w.alloc (.cells #[.int .i64 x0, .int .i64 x1, .slice a n c, .int .i64 x3, .int .i64 x4, .bool x5] 26)).alloc (.cells #[.int .i64 0, .int .i64 0, .slice none 0 0, .int .i64 0, .int .i64 0, .bool false] 26) := ⟨_, rfl⟩
  have bW1 : Below w.heap.size w W1 := by rw [hW1]; exact ((Below.refl _ _).alloc (Nat.le_refl _) _).alloc (by simp) _
  have zW1 : W1.heap.size = w.heap.size + 1 + 1 := by rw [hW1]; simp
  have hbox : W1.heap[w.heap.size]? = some (.cells #[.int .i64 x0, .int .i64 x1, .slice a n c, .int .i64 x3, .int .i64 x4, .bool x5] 26 (0, 0)) := by
    rw [hW1, heap_alloc_old _ _ (by simp)]; exact heap_alloc_new w _
  have hbox1 : W1.heap[w.heap.size + 1]? = some (.cells #[.int .i64 0, .int .i64 0, .slice none 0 0, .int .i64 0, .int .i64 0, .bool false] 26 (0, 0)) := by
    rw [hW1]
    have := heap_alloc_new (w.alloc (.cells #[.int .i64 x0, .int .i64 x1, .slice a n c, .int .i64 x3, .int .i64 x4, .bool x5] 26)) (.cells #[.int .i64 0, .int .i64 0, .slice none 0 0, .int .i64 0, .int .i64 0, .bool false] 26)
    simpa using this
  have HBX : Hid (∀ w', Below W1.heap.size W1 w' → w'.heap[w.heap.size]? = some (.cells #[.int .i64 x0, .int .i64 x1, .slice a n c, .int .i64 x3, .int .i64 x4, .bool x5] 26 (0, 0))) := fun w' h' => (h'.block _ (by omega)).trans hbox
  have HBR : Hid (∀ w', Below W1.heap.size W1 w' → w'.heap[w.heap.size + 1]? = some (.cells #[.int .i64 0, .int .i64 0, .slice none 0 0, .int .i64 0, .int .i64 0, .bool false] 26 (0, 0))) := fun w' h' => (h'.block _ (by omega)).trans hbox1
  have HR : Hid (Reads (.sl .int) w [.slice a n c] zs) := hr
  have qg : Hid (∀ w', Below w.heap.size w w' → Calls Try.prog 22 #[.agg #[.int .i64 x0, .int .i64 x1, .slice a n c, .int .i64 x3, .int .i64 x4, .bool x5]] w' fun e w'' => e = .returned (.bool (gokB (x0, x1, zs, x3, x4, x5, ()))) ∧ Below w'.heap.size w' w'') := fun w' h' => gok_any x0 x1 x3 x4 a n c x5 zs w' (hr.later h')
  have HW : Hid (W1 = _) := hW1
  have HB1 : Hid (Below w.heap.size w W1) := bW1
  have HZ : Hid (gokB (x0, x1, zs, x3, x4, x5, ()) = true → zN.length = n ∧ ∀ i, i < n → -1 ≤ at0 zN i ∧ at0 zN i ≤ 1114111) := hz
  have HM : Hid (gokB (x0, x1, zs, x3, x4, x5, ()) = true → ∀ w' B p g, SheetAt w' B p g n x0 x1 x3 x4 x5 (up (-32) zs) → Calls Try.prog 24 #[.pointer (some ⟨p, 0, none⟩), .int .i64 x] w' fun e w'' => e = .returned (.tuple #[]) ∧ SheetAt w'' B p g n x0 x1 Y3 Y4 Y5 (up (-32) zN) ∧ Touch w' w'' [p, g]) := hM
  have hb00 : Below W1.heap.size W1 W1 := Below.refl _ _
  have i_W1 := HBX.out W1 hb00
  have y0 : W1.cell? ⟨w.heap.size, 0, none⟩ = some (.int .i64 x0) := box_cell i_W1 rfl
  have y1 : W1.cell? ⟨w.heap.size, 1, none⟩ = some (.int .i64 x1) := box_cell i_W1 rfl
  have y2 : W1.cell? ⟨w.heap.size, 2, none⟩ = some (.slice a n c) := box_cell i_W1 rfl
  have y3 : W1.cell? ⟨w.heap.size, 3, none⟩ = some (.int .i64 x3) := box_cell i_W1 rfl
  have y4 : W1.cell? ⟨w.heap.size, 4, none⟩ = some (.int .i64 x4) := box_cell i_W1 rfl
  have y5 : W1.cell? ⟨w.heap.size, 5, none⟩ = some (.bool x5) := box_cell i_W1 rfl
  clear i_W1
  clear hW1 hbox hbox1 hr hrd hl hb00 hz hM
  by_cases hg : gokB (x0, x1, zs, x3, x4, x5, ()) = true
  rotate_left
  · have hg' : gokB (x0, x1, zs, x3, x4, x5, ()) = false := by simpa using hg
    have HG : Hid (gokB (x0, x1, zs, x3, x4, x5, ()) = false) := hg'
    rw [hg'] at qg
    clear hg hg'
    go_enter Try.func8, Try.ntmps8
    go_wp2_with fail
    rw [← HW.out]
    refine (qg.out _ HB1.out).mono ?_
    rintro e w2 ⟨rfl, hb2⟩
    have b2 := HB1.out.trans (hb2.mono HB1.out.size)
    have j0 := HBR.out w2 hb2
    have HLD : (loadVar 26 ⟨w.heap.size + 1, 0, none⟩).run Try.prog (w2.setRow (w.heap.size + 1) #[.int .i64 0, .int .i64 0, .slice none 0 0, .int .i64 0, .int .i64 0, .bool false]) = .ok (.agg #[.int .i64 0, .int .i64 0, .slice none 0 0, .int .i64 0, .int .i64 0, .bool false]) (w2.setRow (w.heap.size + 1) #[.int .i64 0, .int .i64 0, .slice none 0 0, .int .i64 0, .int .i64 0, .bool false]) := run_loadVar_row _ _ _ _ _ _ _ (setRow_heap _ _ _ _ _ _ j0) Try.underlying26 rfl (by kernel_rfl)
    have HO : Hid (_) := below_setRow b2 (Nat.le_add_right _ 1) #[.int .i64 0, .int .i64 0, .slice none 0 0, .int .i64 0, .int .i64 0, .bool false]
    clear hb2 b2 y0 y1 y2 y3 y4 y5
    go_wp2_with (refine wpList_store_row rfl _ _ _ rfl _ _ rfl rfl _ _ j0 (by kernel_rfl) rfl (by simp [Value.oneCell']) ?_)
    (try simp only [Exit.inBlock, Exit.then])
    refine bodyPost_ret (by simp [results, Try.results8, asAddr, Act.put, HLD]; try rfl) rfl ?_
    refine ⟨_, [], rfl, ?_, List.nodup_nil, HO.out⟩
    rw [HRR.out, ansG_no HG.out]
    exact own_zeroG _ _
  · have HG : Hid (gokB (x0, x1, zs, x3, x4, x5, ()) = true) := hg
    rw [hg] at qg
    have hcl : n ≤ 8000 ∧ ∀ i, i < n → -1 ≤ at0 zs i ∧ at0 zs i ≤ 1114111 := by
      obtain ⟨W, H, _, _, _, _, _, _, g5, hlen, hcl, _⟩ := gok_parts hg
      have hl := (reads_ints HR.out).1
      refine ⟨by omega, fun i hi => cells_in hcl (by omega)⟩
    have hn8 := hcl.1
    have qs : Hid (∀ w', Below w.heap.size w w' → Calls Try.prog 23 #[.agg #[.int .i64 x0, .int .i64 x1, .slice a n c, .int .i64 x3, .int .i64 x4, .bool x5]] w' fun e w'' => ∃ p g, e = .returned (.pointer (some ⟨p, 0, none⟩)) ∧ SheetAt w'' w'.heap.size p g n x0 x1 x3 x4 x5 (up (-32) zs) ∧ Below w'.heap.size w' w'') := fun w' h' => sheetOf_any x0 x1 x3 x4 a n c x5 zs w' (HR.out.later h') (by omega) hcl.2
    have qm : Hid (∀ w' B p g, SheetAt w' B p g n x0 x1 x3 x4 x5 (up (-32) zs) → Calls Try.prog 24 #[.pointer (some ⟨p, 0, none⟩), .int .i64 x] w' fun e w'' => e = .returned (.tuple #[]) ∧ SheetAt w'' B p g n x0 x1 Y3 Y4 Y5 (up (-32) zN) ∧ Touch w' w'' [p, g]) := HM.out hg
    have hzN := HZ.out hg
    have qd : Hid (∀ w' B p g, SheetAt w' B p g n x0 x1 Y3 Y4 Y5 (up (-32) zN) → Calls Try.prog 25 #[.pointer (some ⟨p, 0, none⟩)] w' fun e w'' => ∃ k, e = .returned (.agg #[.int .i64 x0, .int .i64 x1, .slice (some ⟨k, 0, none⟩) n n, .int .i64 Y3, .int .i64 Y4, .bool Y5]) ∧ w''.ownsRow w'.heap.size 3 1 (.slice (some ⟨k, 0, none⟩) n n) n (zN.map (Value.int .i64)) ∧ Below w'.heap.size w' w'') := fun w' B p g hs => by
      have := grid_any p g n B x0 x1 Y3 Y4 Y5 (up (-32) zN) w' hs (by omega) (fun i hi => by
        rw [up_at (by rw [hzN.1]; exact hi)]
        have := hzN.2 i hi; omega)
      rw [up_up 32] at this
      exact this
    have HN : Hid (zN.length = n) := hzN.1
    clear hg hcl hzN HM HZ
    go_enter Try.func8, Try.ntmps8
    go_wp2_with fail
    rw [← HW.out]
    refine (qg.out _ HB1.out).mono ?_
    rintro e w2 ⟨rfl, hb2⟩
    have b2 := HB1.out.trans (hb2.mono HB1.out.size)
    have z2 := hb2.size
    clear y0 y1 y2 y3 y4 y5
    have i_w2 := HBX.out w2 hb2
    have y0 : w2.cell? ⟨w.heap.size, 0, none⟩ = some (.int .i64 x0) := box_cell i_w2 rfl
    have y1 : w2.cell? ⟨w.heap.size, 1, none⟩ = some (.int .i64 x1) := box_cell i_w2 rfl
    have y2 : w2.cell? ⟨w.heap.size, 2, none⟩ = some (.slice a n c) := box_cell i_w2 rfl
    have y3 : w2.cell? ⟨w.heap.size, 3, none⟩ = some (.int .i64 x3) := box_cell i_w2 rfl
    have y4 : w2.cell? ⟨w.heap.size, 4, none⟩ = some (.int .i64 x4) := box_cell i_w2 rfl
    have y5 : w2.cell? ⟨w.heap.size, 5, none⟩ = some (.bool x5) := box_cell i_w2 rfl
    clear i_w2
    have HB2 : Hid (Below W1.heap.size W1 w2) := hb2
    clear hb2
    go_wp2_with fail
    refine (qs.out _ b2).mono ?_
    rintro e w3 ⟨p, g, rfl, sh3, hb3⟩
    have HB3 : Hid (Below w2.heap.size w2 w3) := hb3
    have S3 : Hid _ := sh3
    clear sh3 hb3 y0 y1 y2 y3 y4 y5
    go_wp2_with fail
    refine (qm.out _ _ _ _ S3.out).mono ?_
    rintro e w4 ⟨rfl, sh4, ht4⟩
    have hb4 : Below w2.heap.size w2 w4 := ht4.below HB3.out HB3.out.size (fun k hk => by
      rcases List.mem_cons.1 hk with rfl | hk
      · exact S3.out.lo
      · rcases List.mem_cons.1 hk with rfl | hk
        · exact (S3.out.row.lt _ rfl).1
        · cases hk)
    have HB4 : Hid (Below W1.heap.size W1 w4) := HB2.out.trans (hb4.mono HB2.out.size)
    have S4 : Hid _ := sh4
    clear sh4 ht4 hb4
    go_wp2_with fail
    refine (qd.out _ _ _ _ S4.out).mono ?_
    rintro e w5 ⟨k, rfl, ho5, hb5⟩
    have b5 : Below W1.heap.size W1 w5 := HB4.out.trans (hb5.mono HB4.out.size)
    have j0 := HBR.out w5 b5
    have z4 := HB4.out.size
    have hk4 : w4.heap.size ≤ k := (ho5.lt k rfl).1
    have HLD : (loadVar 26 ⟨w.heap.size + 1, 0, none⟩).run Try.prog (w5.setRow (w.heap.size + 1) #[.int .i64 x0, .int .i64 x1, .slice (some ⟨k, 0, none⟩) n n, .int .i64 Y3, .int .i64 Y4, .bool Y5]) = .ok (.agg #[.int .i64 x0, .int .i64 x1, .slice (some ⟨k, 0, none⟩) n n, .int .i64 Y3, .int .i64 Y4, .bool Y5]) (w5.setRow (w.heap.size + 1) #[.int .i64 x0, .int .i64 x1, .slice (some ⟨k, 0, none⟩) n n, .int .i64 Y3, .int .i64 Y4, .bool Y5]) := run_loadVar_row _ _ _ _ _ _ _ (setRow_heap _ _ _ _ _ _ j0) Try.underlying26 rfl (by kernel_rfl)
    have HO : Hid (_ ∧ _) := ⟨own_low (own_offR ho5 (w.heap.size + 1) #[.int .i64 x0, .int .i64 x1, .slice (some ⟨k, 0, none⟩) n n, .int .i64 Y3, .int .i64 Y4, .bool Y5] (by omega)) (show w.heap.size ≤ w4.heap.size by omega), below_setRow (HB1.out.trans (b5.mono HB1.out.size)) (Nat.le_add_right _ 1) #[.int .i64 x0, .int .i64 x1, .slice (some ⟨k, 0, none⟩) n n, .int .i64 Y3, .int .i64 Y4, .bool Y5]⟩
    clear ho5 hb5 b5
    go_wp2_with (refine wpList_store_row rfl _ _ _ rfl _ _ rfl rfl _ _ j0 (by kernel_rfl) rfl (by simp [Value.oneCell']) ?_)
    (try simp only [Exit.inBlock, Exit.then])
    refine bodyPost_ret (by simp [results, Try.results8, asAddr, Act.put, HLD]; try rfl) rfl ?_
    refine ⟨_, [k] ++ [], rfl, ?_, by simp, HO.out.2⟩
    rw [HRR.out, ansG_yes HG.out]
    exact own_Grid (d := (x0, x1, zN, Y3, Y4, Y5, ())) (F2 := [k]) (own_ints HN.out HO.out.1)

end Go.Proofs.Ytmiggbdlhajkiaa
