/-
  The model's GridGo. By program (grsfgen.py).
-/
import Derived.Test.YtmiggbdlhajkiaaGrC
namespace Go.Proofs.Ytmiggbdlhajkiaa
open Go.RowKit
set_option linter.unusedVariables false
set_option linter.unusedSimpArgs false

set_option maxRecDepth 100000 in
set_option maxHeartbeats 4000000 in
theorem specGridGo_row (x0 x1 x3 x4 : Int) (a : Option Addr) (n c : Nat) (x5 : Bool) (zs : List Int) (x : Int) (y : Int) (R : GrD) (hR : R = ansG (x0, x1, zs, x3, x4, x5, ()) (x0, x1, zs, clampG x x0, clampG y x1, false, ())) (w : World) (hr : Reads (.sl .int) w [.slice a n c] zs) :
    Calls Try.prog 19 #[.agg #[.int .i64 x0, .int .i64 x1, .slice a n c, .int .i64 x3, .int .i64 x4, .bool x5], .int .i64 x, .int .i64 y] w fun e w' => ∃ o F, e = .returned (.agg o.toArray) ∧ Own shGrid w' w.heap.size o R F ∧ F.Nodup ∧ Below w.heap.size w w' ∧ RowAns (gokB (x0, x1, zs, x3, x4, x5, ())) w' w.heap.size n R o := by
  have HRR : Hid (R = _) := hR
  clear hR
  obtain ⟨hl, hrd, hc, hm⟩ := reads_ints hr
  unfold maxLen at hm
  obtain ⟨W1, hW1⟩ : ∃ W, W = (w.alloc (.cells #[.int .i64 x0, .int .i64 x1, .slice a n c, .int .i64 x3, .int .i64 x4, .bool x5] 26)).alloc (.cells #[.int .i64 0, .int .i64 0, .slice none 0 0, .int .i64 0, .int .i64 0, .bool false] 26) := ⟨_, rfl⟩
  have bW1 : Below w.heap.size w W1 := by rw [hW1]; exact ((Below.refl _ _).alloc (Nat.le_refl _) _).alloc (by simp) _
  have zW1 : W1.heap.size = w.heap.size + 1 + 1 := by rw [hW1]; simp
  have hbox : W1.heap[w.heap.size]? = some (.cells #[.int .i64 x0, .int .i64 x1, .slice a n c, .int .i64 x3, .int .i64 x4, .bool x5] 26 (0, 0)) := by
    rw [hW1, heap_alloc_old _ _ (by simp)]; exact heap_alloc_new w _
  have hbox1 : W1.heap[w.heap.size + 1]? = some (.cells #[.int .i64 0, .int .i64 0, .slice none 0 0, .int .i64 0, .int .i64 0, .bool false] 26 (0, 0)) := by
    rw [hW1]
    have := heap_alloc_new (w.alloc (.cells #[.int .i64 x0, .int .i64 x1, .slice a n c, .int .i64 x3, .int .i64 x4, .bool x5] 26)) (.cells #[.int .i64 0, .int .i64 0, .slice none 0 0, .int .i64 0, .int .i64 0, .bool false] 26)
    simpa using this
  have HBX : Hid (∀ w', Below W1.heap.size W1 w' → w'.heap[w.heap.size]? = some (.cells #[.int .i64 x0, .int .i64 x1, .slice a n c, .int .i64 x3, .int .i64 x4, .bool x5] 26 (0, 0))) := fun w' h' => (h'.block _ (by omega)).trans hbox
  have HBR : Hid (∀ w', Below W1.heap.size W1 w' → w'.heap[w.heap.size + 1]? = some (.cells #[.int .i64 0, .int .i64 0, .slice none 0 0, .int .i64 0, .int .i64 0, .bool false] 26 (0, 0))) := fun w' h' => (h'.block _ (by omega)).trans hbox1
  have HR : Hid (Reads (.sl .int) w [.slice a n c] zs) := hr
  have qg : Hid (∀ w', Below w.heap.size w w' → Calls Try.prog 15 #[.agg #[.int .i64 x0, .int .i64 x1, .slice a n c, .int .i64 x3, .int .i64 x4, .bool x5]] w' fun e w'' => e = .returned (.bool (gokB (x0, x1, zs, x3, x4, x5, ()))) ∧ Below w'.heap.size w' w'') := fun w' h' => specGok_any x0 x1 x3 x4 a n c x5 zs w' (hr.later h')
  have HW : Hid (W1 = _) := hW1
  have HB1 : Hid (Below w.heap.size w W1) := bW1
  have hb00 : Below W1.heap.size W1 W1 := Below.refl _ _
  have i_W1 := HBX.out W1 hb00
  have y0 : W1.cell? ⟨w.heap.size, 0, none⟩ = some (.int .i64 x0) := box_cell i_W1 rfl
  have y1 : W1.cell? ⟨w.heap.size, 1, none⟩ = some (.int .i64 x1) := box_cell i_W1 rfl
  have y2 : W1.cell? ⟨w.heap.size, 2, none⟩ = some (.slice a n c) := box_cell i_W1 rfl
  have y3 : W1.cell? ⟨w.heap.size, 3, none⟩ = some (.int .i64 x3) := box_cell i_W1 rfl
  have y4 : W1.cell? ⟨w.heap.size, 4, none⟩ = some (.int .i64 x4) := box_cell i_W1 rfl
  have y5 : W1.cell? ⟨w.heap.size, 5, none⟩ = some (.bool x5) := box_cell i_W1 rfl
  clear i_W1
  clear hW1 hbox hbox1 hr hrd hl hb00
  by_cases hg : gokB (x0, x1, zs, x3, x4, x5, ()) = true
  rotate_left
  · have hg' : gokB (x0, x1, zs, x3, x4, x5, ()) = false := by simpa using hg
    have HG : Hid (gokB (x0, x1, zs, x3, x4, x5, ()) = false) := hg'
    rw [hg'] at qg
    clear hg hg'
    go_enter Try.func19, Try.ntmps19
    go_wp2_with fail
    rw [← HW.out]
    refine (qg.out _ HB1.out).mono ?_
    rintro e w2 ⟨rfl, hb2⟩
    have b2 := HB1.out.trans (hb2.mono HB1.out.size)
    have j0 := HBR.out w2 hb2
    have HLD : (loadVar 26 ⟨w.heap.size + 1, 0, none⟩).run Try.prog (w2.setRow (w.heap.size + 1) #[.int .i64 0, .int .i64 0, .slice none 0 0, .int .i64 0, .int .i64 0, .bool false]) = .ok (.agg #[.int .i64 0, .int .i64 0, .slice none 0 0, .int .i64 0, .int .i64 0, .bool false]) (w2.setRow (w.heap.size + 1) #[.int .i64 0, .int .i64 0, .slice none 0 0, .int .i64 0, .int .i64 0, .bool false]) := run_loadVar_row _ _ _ _ _ _ _ (setRow_heap _ _ _ _ _ _ j0) Try.underlying26 rfl (by kernel_rfl)
    have HO : Hid (_) := below_setRow b2 (Nat.le_add_right _ 1) #[.int .i64 0, .int .i64 0, .slice none 0 0, .int .i64 0, .int .i64 0, .bool false]
    clear hb2 b2 y0 y1 y2 y3 y4 y5
    go_wp2_with (refine wpList_store_row rfl _ _ _ rfl _ _ rfl rfl _ _ j0 (by kernel_rfl) rfl (by simp [Value.oneCell']) ?_)
    (try simp only [Exit.inBlock, Exit.then])
    refine bodyPost_ret (by simp [results, Try.results19, asAddr, Act.put, HLD]; try rfl) rfl ?_
    refine ⟨_, [], rfl, ?_, List.nodup_nil, HO.out, fun h => by rw [HG.out] at h; cases h⟩
    rw [HRR.out, ansG_no HG.out]
    exact own_zeroG _ _
  · have HG : Hid (gokB (x0, x1, zs, x3, x4, x5, ()) = true) := hg
    rw [hg] at qg
    obtain ⟨W, H, rfl, rfl, g1, g2, g3, g4, g5, hlen, hcl, hcu⟩ := gok_parts hg
    have hl := (reads_ints HR.out).1
    have hn : n = W * H := by omega
    have hmb := mul_bd (x := W) (y := H) (by omega) (by omega) (by omega) (by omega)
    have hpr : (W : Int) * (H : Int) = (n : Int) := by rw [hn]; simp
    rw [hpr] at hmb
    have HN : Hid (n = W * H ∧ zs.length = n ∧ cellsB zs W (W * H) = true ∧ cursB W H x3 x4 x5 = true) := ⟨hn, hl, hcl, hcu⟩
    have hn8 : n ≤ 8000 := by omega
    have qc : Hid (∀ w', Below w.heap.size w w' → Calls Try.prog 17 #[.agg #[.int .i64 W, .int .i64 H, .slice a n c, .int .i64 x3, .int .i64 x4, .bool x5]] w' fun e w'' => ∃ k kc, e = .returned (.agg #[.int .i64 W, .int .i64 H, .slice (some ⟨k, 0, none⟩) n kc, .int .i64 x3, .int .i64 x4, .bool x5]) ∧ w''.ownsRow w'.heap.size 3 1 (.slice (some ⟨k, 0, none⟩) n kc) n (zs.map (Value.int .i64)) ∧ Below w'.heap.size w' w'') := fun w' h' => specGcopy_any W H x3 x4 a n c x5 zs w' (HR.out.later h') (by omega) (by omega)
    clear hg hn hl hlen hcl hcu g5 hpr
    go_enter Try.func19, Try.ntmps19
    go_wp2_with fail
    rw [← HW.out]
    refine (qg.out _ HB1.out).mono ?_
    rintro e w2 ⟨rfl, hb2⟩
    have b2 := HB1.out.trans (hb2.mono HB1.out.size)
    have z2 := hb2.size
    clear y0 y1 y2 y3 y4 y5
    have i_w2 := HBX.out w2 hb2
    have y0 : w2.cell? ⟨w.heap.size, 0, none⟩ = some (.int .i64 W) := box_cell i_w2 rfl
    have y1 : w2.cell? ⟨w.heap.size, 1, none⟩ = some (.int .i64 H) := box_cell i_w2 rfl
    have y2 : w2.cell? ⟨w.heap.size, 2, none⟩ = some (.slice a n c) := box_cell i_w2 rfl
    have y3 : w2.cell? ⟨w.heap.size, 3, none⟩ = some (.int .i64 x3) := box_cell i_w2 rfl
    have y4 : w2.cell? ⟨w.heap.size, 4, none⟩ = some (.int .i64 x4) := box_cell i_w2 rfl
    have y5 : w2.cell? ⟨w.heap.size, 5, none⟩ = some (.bool x5) := box_cell i_w2 rfl
    clear i_w2
    have HB2 : Hid (Below W1.heap.size W1 w2) := hb2
    clear hb2
    go_wp2_with fail
    refine (qc.out _ b2).mono ?_
    rintro e w3 ⟨k, kc, rfl, ho3, hb3⟩
    have HB3 : Hid (Below W1.heap.size W1 w3) := HB2.out.trans (hb3.mono HB2.out.size)
    have z3 := hb3.size
    have hk3 : w2.heap.size ≤ k ∧ k < w3.heap.size := ho3.lt k rfl
    have HO3 : Hid (w3.ownsRow w2.heap.size 3 1 (.slice (some ⟨k, 0, none⟩) n kc) n (zs.map (Value.int .i64))) := ho3
    clear ho3 hb3 y0 y1 y2 y3 y4 y5
    have i_w3 := HBX.out w3 HB3.out
    have y0 : w3.cell? ⟨w.heap.size, 0, none⟩ = some (.int .i64 W) := box_cell i_w3 rfl
    have y1 : w3.cell? ⟨w.heap.size, 1, none⟩ = some (.int .i64 H) := box_cell i_w3 rfl
    clear i_w3
    have wW : IntKind.i64.wrap ((W : Int) - 1) = (W : Int) - 1 := wrap_i64_in _ (by omega) (by omega)
    have wH : IntKind.i64.wrap ((H : Int) - 1) = (H : Int) - 1 := wrap_i64_in _ (by omega) (by omega)
    obtain ⟨X, hX⟩ : ∃ X, X = clampG x W := ⟨_, rfl⟩
    obtain ⟨Y, hY⟩ : ∃ Y, Y = clampG y H := ⟨_, rfl⟩
    have qx : Hid (∀ w', Calls Try.prog 32 #[.int .i64 x, .int .i64 ((W : Int) - 1)] w' fun e w'' => e = .returned (.int .i64 X) ∧ w'' = w') := fun w' => by
      have := specClamp_any x ((W : Int) - 1) w' (by omega); rw [Int.sub_add_cancel, ← hX] at this; exact this
    have qy : Hid (∀ w', Calls Try.prog 32 #[.int .i64 y, .int .i64 ((H : Int) - 1)] w' fun e w'' => e = .returned (.int .i64 Y) ∧ w'' = w') := fun w' => by
      have := specClamp_any y ((H : Int) - 1) w' (by omega); rw [Int.sub_add_cancel, ← hY] at this; exact this
    have HX : Hid (X = clampG x W ∧ Y = clampG y H) := ⟨hX, hY⟩
    clear hX hY
    have zl : w.heap.size < w3.heap.size := by omega
    have zl1 : w.heap.size + 1 < w3.heap.size := by omega
    have HV : Hid (∀ u3 u4 u5, (w3.alloc (.cells #[.int .i64 W, .int .i64 H, .slice (some ⟨k, 0, none⟩) n kc, u3, u4, u5] 26)).heap[w.heap.size + 1]? = some (.cells #[.int .i64 0, .int .i64 0, .slice none 0 0, .int .i64 0, .int .i64 0, .bool false] 26 (0, 0))) := fun u3 u4 u5 => (heap_alloc_old _ _ zl1).trans (HBR.out w3 HB3.out)
    have j0 := HV.out (.int .i64 X) (.int .i64 Y) (.bool false)
    have bV : Below w.heap.size w (w3.alloc (.cells #[.int .i64 W, .int .i64 H, .slice (some ⟨k, 0, none⟩) n kc, .int .i64 X, .int .i64 Y, .bool false] 26)) := (HB1.out.trans (HB3.out.mono HB1.out.size)).alloc (by omega) _
    have oV : (w3.alloc (.cells #[.int .i64 W, .int .i64 H, .slice (some ⟨k, 0, none⟩) n kc, .int .i64 X, .int .i64 Y, .bool false] 26)).ownsRow w2.heap.size 3 1 (.slice (some ⟨k, 0, none⟩) n kc) n (zs.map (Value.int .i64)) := HO3.out.alloc _
    have HLD : (loadVar 26 ⟨w.heap.size + 1, 0, none⟩).run Try.prog ((w3.alloc (.cells #[.int .i64 W, .int .i64 H, .slice (some ⟨k, 0, none⟩) n kc, .int .i64 X, .int .i64 Y, .bool false] 26)).setRow (w.heap.size + 1) #[.int .i64 W, .int .i64 H, .slice (some ⟨k, 0, none⟩) n kc, .int .i64 X, .int .i64 Y, .bool false]) = .ok (.agg #[.int .i64 W, .int .i64 H, .slice (some ⟨k, 0, none⟩) n kc, .int .i64 X, .int .i64 Y, .bool false]) ((w3.alloc (.cells #[.int .i64 W, .int .i64 H, .slice (some ⟨k, 0, none⟩) n kc, .int .i64 X, .int .i64 Y, .bool false] 26)).setRow (w.heap.size + 1) #[.int .i64 W, .int .i64 H, .slice (some ⟨k, 0, none⟩) n kc, .int .i64 X, .int .i64 Y, .bool false]) := run_loadVar_row _ _ _ _ _ _ _ (setRow_heap _ _ _ _ _ _ j0) Try.underlying26 rfl (by kernel_rfl)
    have HO : Hid (_ ∧ _) := ⟨own_low (own_offR oV (w.heap.size + 1) #[.int .i64 W, .int .i64 H, .slice (some ⟨k, 0, none⟩) n kc, .int .i64 X, .int .i64 Y, .bool false] (by omega)) (show w.heap.size ≤ w2.heap.size by omega), below_setRow bV (Nat.le_add_right _ 1) #[.int .i64 W, .int .i64 H, .slice (some ⟨k, 0, none⟩) n kc, .int .i64 X, .int .i64 Y, .bool false]⟩
    clear bV oV
    go_wp2_with fail
    refine (qx.out _).mono ?_
    rintro e w4 ⟨rfl, rfl⟩
    go_wp2_with fail
    refine (qy.out _).mono ?_
    rintro e w4 ⟨rfl, rfl⟩
    go_wp2_with ((refine wpList_store_row rfl _ _ _ rfl _ _ rfl rfl _ _ j0 (by kernel_rfl) rfl (by simp [Value.oneCell']) ?_))
    (try simp only [Exit.inBlock, Exit.then])
    refine bodyPost_ret (by simp [results, Try.results19, asAddr, Act.put, HLD]; try rfl) rfl ?_
    refine ⟨_, [k] ++ [], rfl, ?_, by simp, HO.out.2, fun _ => by rw [HRR.out, ansG_yes HG.out, ← HX.out.1, ← HX.out.2]; exact ⟨k, kc, rfl, HO.out.1⟩⟩
    rw [HRR.out, ansG_yes HG.out, ← HX.out.1, ← HX.out.2]
    exact own_Grid (d := ((W : Int), (H : Int), zs, X, Y, false, ())) (F2 := [k]) (own_ints HN.out.2.1 HO.out.1)

theorem specGridGo_any (x0 x1 x3 x4 : Int) (a : Option Addr) (n c : Nat) (x5 : Bool) (zs : List Int) (x : Int) (y : Int) (R : GrD) (hR : R = ansG (x0, x1, zs, x3, x4, x5, ()) (x0, x1, zs, clampG x x0, clampG y x1, false, ())) (w : World) (hr : Reads (.sl .int) w [.slice a n c] zs) :
    Calls Try.prog 19 #[.agg #[.int .i64 x0, .int .i64 x1, .slice a n c, .int .i64 x3, .int .i64 x4, .bool x5], .int .i64 x, .int .i64 y] w fun e w' => ∃ o F, e = .returned (.agg o.toArray) ∧ Own shGrid w' w.heap.size o R F ∧ F.Nodup ∧ Below w.heap.size w w' :=
  (specGridGo_row x0 x1 x3 x4 a n c x5 zs x y R hR w hr).mono fun e w' ⟨o, F, he, ho, hn, hb, _⟩ => ⟨o, F, he, ho, hn, hb⟩

end Go.Proofs.Ytmiggbdlhajkiaa
