/-
  The model's copy of a grid, and its clamp.
-/
import Derived.Test.YtmiggbdlhajkiaaGrJ
import Derived.Test.YtmiggbdlhajkiaaGrV
import Derived.Deep.AppendLies
namespace Go.Proofs.Ytmiggbdlhajkiaa
open Go.RowKit
set_option linter.unusedVariables false
set_option linter.unusedSimpArgs false

/-- Where the cells of an answer lie, if there is one. -/
def RowAns (g : Bool) (w' : World) (B n : Nat) (R : GrD) (o : List Value) : Prop :=
  g = true → ∃ k kc, o = [.int .i64 R.1, .int .i64 R.2.1, .slice (some ⟨k, 0, none⟩) n kc, .int .i64 R.2.2.2.1, .int .i64 R.2.2.2.2.1, .bool R.2.2.2.2.2.1] ∧ w'.ownsRow B 3 1 (.slice (some ⟨k, 0, none⟩) n kc) n (R.2.2.1.map (Value.int .i64))

theorem specClamp_any (x m : Int) (w : World) (hm : 0 ≤ m) :
    Calls Try.prog 32 #[.int .i64 x, .int .i64 m] w fun e w' => e = .returned (.int .i64 (clampG x (m + 1))) ∧ w' = w := by
  by_cases h1 : x < 0
  · have e : clampG x (m + 1) = 0 := by unfold clampG; omega
    rw [e]; clear e
    go_enter Try.func32, Try.ntmps32
    go_wp2
    go_ret
    exact ⟨rfl, rfl⟩
  · by_cases h2 : m < x
    · have e : clampG x (m + 1) = m := by unfold clampG; omega
      rw [e]; clear e
      go_enter Try.func32, Try.ntmps32
      go_wp2
      go_ret
      exact ⟨rfl, rfl⟩
    · have e : clampG x (m + 1) = x := by unfold clampG; omega
      rw [e]; clear e
      go_enter Try.func32, Try.ntmps32
      go_wp2
      go_ret
      exact ⟨rfl, rfl⟩

set_option maxRecDepth 100000 in
set_option maxHeartbeats 4000000 in
theorem specGcopy_any (x0 x1 x3 x4 : Int) (a : Option Addr) (n c : Nat) (x5 : Bool) (zs : List Int) (w : World) (hr : Reads (.sl .int) w [.slice a n c] zs) (hn1 : 1 ≤ n) (hn : n ≤ 1048576) :
    Calls Try.prog 17 #[.agg #[.int .i64 x0, .int .i64 x1, .slice a n c, .int .i64 x3, .int .i64 x4, .bool x5]] w fun e w' => ∃ k kc, e = .returned (.agg #[.int .i64 x0, .int .i64 x1, .slice (some ⟨k, 0, none⟩) n kc, .int .i64 x3, .int .i64 x4, .bool x5]) ∧ w'.ownsRow w.heap.size 3 1 (.slice (some ⟨k, 0, none⟩) n kc) n (zs.map (Value.int .i64)) ∧ Below w.heap.size w w' := by
  obtain ⟨i0, hi, hz0, hz1, hz2⟩ := info_parts Try.infoI
  obtain ⟨hl, hrd, hc, hm⟩ := reads_ints hr
  unfold maxLen at hm
  have hne : zs ≠ [] := by intro h'; subst h'; have h8 : 0 = n := hl; omega
  obtain ⟨b, off, rfl, hb, hcc⟩ := hrd.resolve_left hne
  obtain ⟨W1, hW1⟩ : ∃ V, V = (w.alloc (.cells #[.int .i64 x0, .int .i64 x1, .slice (some ⟨b, off, none⟩) n c, .int .i64 x3, .int .i64 x4, .bool x5] 26)).alloc (.cells #[.int .i64 0, .int .i64 0, .slice none 0 0, .int .i64 0, .int .i64 0, .bool false] 26) := ⟨_, rfl⟩
  have bW1 : Below w.heap.size w W1 := by rw [hW1]; exact ((Below.refl _ _).alloc (Nat.le_refl _) _).alloc (by simp) _
  have zW1 : W1.heap.size = w.heap.size + 1 + 1 := by rw [hW1]; simp
  have hbox : W1.heap[w.heap.size]? = some (.cells #[.int .i64 x0, .int .i64 x1, .slice (some ⟨b, off, none⟩) n c, .int .i64 x3, .int .i64 x4, .bool x5] 26 (0, 0)) := by
    rw [hW1, heap_alloc_old _ _ (by simp)]; exact heap_alloc_new w _
  have hbox1 : W1.heap[w.heap.size + 1]? = some (.cells #[.int .i64 0, .int .i64 0, .slice none 0 0, .int .i64 0, .int .i64 0, .bool false] 26 (0, 0)) := by
    rw [hW1]
    have := heap_alloc_new (w.alloc (.cells #[.int .i64 x0, .int .i64 x1, .slice (some ⟨b, off, none⟩) n c, .int .i64 x3, .int .i64 x4, .bool x5] 26)) (.cells #[.int .i64 0, .int .i64 0, .slice none 0 0, .int .i64 0, .int .i64 0, .bool false] 26)
    simpa using this
  have hown0 := World.ownsRow_lit (base := W1.heap.size) (e := 3) (size := 1) W1 #[] 0 (Nat.le_refl _) (Nat.zero_le _) rfl
  have hsrc : ∀ (j : Nat) (u : Value), (zs.map (Value.int .i64))[j]? = some u → (W1.alloc (.cells #[] 3)).cell? ((⟨b, off, none⟩ : Addr).add j) = some u := by
    intro j u hu
    have hj : j < zs.length := by have := (List.getElem?_eq_some_iff.1 hu).1; simpa using this
    have e : (⟨b, off, none⟩ : Addr).add j = ⟨b, off + j, none⟩ := by cases j <;> simp [Addr.add]
    have h9 := hcc j hj
    have bA : Below w.heap.size w (W1.alloc (.cells #[] 3)) := bW1.alloc bW1.size _
    rw [e, (bA.cell (p := ⟨b, off + j, none⟩) hb).trans h9, ← hu]
    simp [hj]
  have HC : Hid (∀ (j : Nat) (u : Value), (zs.map (Value.int .i64))[j]? = some u → (W1.alloc (.cells #[] 3)).cell? ((⟨b, off, none⟩ : Addr).add j) = some u) := hsrc
  have HW : Hid (W1 = _) := hW1
  have HB : Hid (W1.heap[w.heap.size]? = _ ∧ W1.heap[w.heap.size + 1]? = _) := ⟨hbox, hbox1⟩
  have HN : Hid (zs.length = n) := hl
  have HB1 : Hid (Below w.heap.size w W1) := bW1
  have zW : ((w.alloc (.cells #[.int .i64 x0, .int .i64 x1, .slice (some ⟨b, off, none⟩) n c, .int .i64 x3, .int .i64 x4, .bool x5] 26)).alloc (.cells #[.int .i64 0, .int .i64 0, .slice none 0 0, .int .i64 0, .int .i64 0, .bool false] 26)).heap.size = W1.heap.size := by rw [hW1]
  rw [zW1] at hown0
  rw [hW1] at hown0 hsrc
  clear hW1 hbox hbox1 hr hrd hl hcc hne hb zW bW1
  go_enter Try.func17, Try.ntmps17
  go_wp2_with (at_builtin; refine wpList_append_lies _ rfl _ _ 22 rfl (w.heap.size + 1 + 1) 3 i0 (.int .i64 0) 1 8 Try.underlying22 hi hz0 hz1 hz2 rfl (by decide) _ 0 _ rfl hown0 ⟨b, off, none⟩ n _ (zs.map (Value.int .i64)) rfl ?c0 hsrc ?c2 (by omega) ?c3 ?c4 ?c5 _ rfl ?_)
  case c0 => exact HN.out
  case c2 => intro z _; rfl
  case c3 => unfold maxLen; omega
  case c4 => omega
  intro k kc w3 hown3 hgrow3 hk1 hk2
  rw [← HW.out] at hgrow3
  have hb3 : Below W1.heap.size W1 w3 := Below.grown ((Below.refl _ _).alloc (Nat.le_refl _) _) hgrow3 (by simp) (fun z h => by cases h; show W1.heap.size ≤ w.heap.size + 1 + 1; omega)
  have i0 : w3.heap[w.heap.size]? = _ := (hb3.block _ (by rw [zW1]; omega)).trans HB.out.1
  have i1 : w3.heap[w.heap.size + 1]? = _ := (hb3.block _ (by rw [zW1]; omega)).trans HB.out.2
  have b3 := HB1.out.trans (hb3.mono HB1.out.size)
  have hkl : w.heap.size + 1 + 1 ≤ k := (hown3.lt k rfl).1
  obtain ⟨V, hV⟩ : ∃ V, V = w3.setCell ⟨w.heap.size, 2, none⟩ (.slice (some ⟨k, 0, none⟩) n kc) := ⟨_, rfl⟩
  have y2 : w3.cell? ⟨w.heap.size, 2, none⟩ = some (.slice (some ⟨b, off, none⟩) n c) := box_cell i0 rfl
  have f2 : w3.frozen? ⟨w.heap.size, 2, none⟩ = false := box_frozen i0
  have j1 : V.heap[w.heap.size]? = some (.cells #[.int .i64 x0, .int .i64 x1, .slice (some ⟨k, 0, none⟩) n kc, .int .i64 x3, .int .i64 x4, .bool x5] 26 (0, 0)) := by
    rw [hV]; have := box_set (j := 2) (.slice (some ⟨k, 0, none⟩) n kc) i0; simpa using this
  have j0 : V.heap[w.heap.size + 1]? = some (.cells #[.int .i64 0, .int .i64 0, .slice none 0 0, .int .i64 0, .int .i64 0, .bool false] 26 (0, 0)) := by rw [hV]; exact (box_other _ (by omega)).trans i1
  have bV : Below w.heap.size w V := by rw [hV]; exact b3.setCell (p := ⟨w.heap.size, 2, none⟩) (Nat.le_refl _) _
  have oV : V.ownsRow (w.heap.size + 1 + 1) 3 1 (.slice (some ⟨k, 0, none⟩) n kc) n (zs.map (Value.int .i64)) := by rw [hV]; exact own_off hown3 w.heap.size 2 _ (by omega)
  have HV : Hid (V = _) := hV
  clear hV i0 i1 hown3 hgrow3 hk1 hk2 hb3 b3 hsrc hown0
  have HLD : (loadVar 26 ⟨w.heap.size + 1, 0, none⟩).run Try.prog (V.setRow (w.heap.size + 1) #[.int .i64 x0, .int .i64 x1, .slice (some ⟨k, 0, none⟩) n kc, .int .i64 x3, .int .i64 x4, .bool x5]) = .ok (.agg #[.int .i64 x0, .int .i64 x1, .slice (some ⟨k, 0, none⟩) n kc, .int .i64 x3, .int .i64 x4, .bool x5]) (V.setRow (w.heap.size + 1) #[.int .i64 x0, .int .i64 x1, .slice (some ⟨k, 0, none⟩) n kc, .int .i64 x3, .int .i64 x4, .bool x5]) := run_loadVar_row _ _ _ _ _ _ _ (setRow_heap _ _ _ _ _ _ j0) Try.underlying26 rfl (by kernel_rfl)
  have HO : Hid (_ ∧ _) := ⟨own_low (own_offR oV (w.heap.size + 1) #[.int .i64 x0, .int .i64 x1, .slice (some ⟨k, 0, none⟩) n kc, .int .i64 x3, .int .i64 x4, .bool x5] (by omega)) (show w.heap.size ≤ w.heap.size + 1 + 1 by omega), below_setRow bV (Nat.le_add_right _ 1) #[.int .i64 x0, .int .i64 x1, .slice (some ⟨k, 0, none⟩) n kc, .int .i64 x3, .int .i64 x4, .bool x5]⟩
  have j0' := j0
  have j1' := j1
  rw [HV.out] at j0' j1' HLD HO
  have g0 := box_cell (j := 0) j1' rfl
  have g1 := box_cell (j := 1) j1' rfl
  have g2 := box_cell (j := 2) j1' rfl
  have g3 := box_cell (j := 3) j1' rfl
  have g4 := box_cell (j := 4) j1' rfl
  have g5 := box_cell (j := 5) j1' rfl
  clear j1' j0 j1 oV bV
  go_wp2_with (refine wpList_store_row rfl _ _ _ rfl _ _ rfl rfl _ _ j0' (by kernel_rfl) rfl (by simp [Value.oneCell']) ?_)
  (try simp only [Exit.inBlock, Exit.then])
  refine bodyPost_ret (by simp [results, Try.results17, asAddr, Act.put, HLD]; try rfl) rfl ?_
  exact ⟨k, kc, rfl, HO.out.1, HO.out.2⟩

end Go.Proofs.Ytmiggbdlhajkiaa
