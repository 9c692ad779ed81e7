/-
  Moving the cursor: EmitStep of the program. By program (emspgen.py).
-/
import Derived.Test.YthgbionamelloaaDoorEmSR
import Derived.Test.YthgbionamelloaaDoorGrG
namespace Go.Proofs.YthgbionamelloaaDoor
open Go.RowKit
set_option linter.unusedVariables false
set_option linter.unusedSimpArgs false
set_option maxRecDepth 100000

theorem back_any (z : Int) (w : World) :
    Calls Tryd.prog 24 #[.int .i64 z] w fun e w' => ∃ v F, e = .returned v ∧ OwC w' w.heap.size v (backZ z) F ∧ F.Nodup ∧ Below w.heap.size w w' := by
  unfold backZ
  by_cases h : 1 ≤ z ∧ z ≤ 3
  · rw [if_pos h]
    obtain ⟨n, hn⟩ : ∃ n, n = z.toNat := ⟨_, rfl⟩
    rw [← hn]
    have hb0 : Below w.heap.size w (w.alloc (.cells #[.int .u8 8] 5)) := (Below.refl _ _).alloc (Nat.le_refl _) _
    have Q : Hid (Calls Tryd.prog 34 #[.slice (some ⟨w.heap.size, 0, none⟩) 1 1, .int .i64 z] (w.alloc (.cells #[.int .u8 8] 5)) fun e w' => ∃ v F, e = .returned v ∧ OwC w' w.heap.size v (List.replicate n 8) F ∧ F.Nodup ∧ Below w.heap.size w w') :=
      (repeat_any n z (by omega) w.heap.size (w.alloc (.cells #[.int .u8 8] 5)) (heap_alloc_new _ _)).mono fun e w' ⟨v, F, h1, h2, h3, h4⟩ => ⟨v, F, h1, h2.base hb0.size, h3, hb0.trans (h4.mono hb0.size)⟩
    have d1 : decide (z < 1) = false := decide_eq_false (by omega)
    have d2 : decide ((3 : Int) < z) = false := decide_eq_false (by omega)
    clear h hn hb0
    go_enter Tryd.func24, Tryd.ntmps24
    go_wp2_with fail
    refine Q.out.mono ?_
    rintro e w1 ⟨v, F, rfl, h1, h2, h3⟩
    have HH : Hid (_ ∧ _ ∧ _) := ⟨h1, h2, h3⟩
    clear h1 h2 h3
    go_wp2
    go_ret
    exact ⟨_, F, rfl, HH.out.1, HH.out.2.1, HH.out.2.2⟩
  · rw [if_neg h]
    by_cases h1 : z < 1
    · have d1 : decide (z < 1) = true := decide_eq_true h1
      clear h h1
      go_enter Tryd.func24, Tryd.ntmps24
      go_wp2
      go_ret
      exact ⟨_, _, rfl, OwC.nil _ _, by simp, Below.refl _ _⟩
    · have d1 : decide (z < 1) = false := decide_eq_false h1
      have d2 : decide ((3 : Int) < z) = true := decide_eq_true (by omega)
      clear h h1
      go_enter Tryd.func24, Tryd.ntmps24
      go_wp2
      go_ret
      exact ⟨_, _, rfl, OwC.nil _ _, by simp, Below.refl _ _⟩

/-- A text of the call's own. -/
def Txt (w : World) (B : Nat) (v : Value) (l : List Int) : Prop := ∃ F, OwC w B v l F ∧ F.Nodup
theorem Txt.val {w : World} {B : Nat} {v : Value} {l : List Int} (h : Txt w B v l) : ∃ p c, v = .slice p l.length c := by
  obtain ⟨F, h1, _⟩ := h
  exact h1.val
theorem Txt.later {w w' : World} {B : Nat} {v : Value} {l : List Int} (h : Txt w B v l) (hb : Below w.heap.size w w') : Txt w' B v l := by
  obtain ⟨F, h1, h2⟩ := h
  exact ⟨F, h1.later hb, h2⟩
theorem Txt.nil (w : World) (B : Nat) : Txt w B (.slice none 0 0) [] := ⟨[], OwC.nil _ _, by simp⟩

theorem goto_txt (x y : Int) (w : World) (B : Nat) (hB : B ≤ w.heap.size) (htab : Lib.TabIs Tryd.prog w "internal/strconv.uint64pow10" .u64 Lib.pow10Tab) :
    Calls Tryd.prog 21 #[.int .i64 x, .int .i64 y] w fun e w' => ∃ v, e = .returned v ∧ Txt w' B v (gotoZ x y) ∧ Below w.heap.size w w' :=
  (implGoto_any x y w htab).mono fun e w' ⟨v, F, h1, h2, h3, h4⟩ => ⟨v, h1, ⟨F, h2.base hB, h3⟩, h4⟩
theorem edge_txt (x : Int) (w : World) (B : Nat) (hB : B ≤ w.heap.size) :
    Calls Tryd.prog 23 #[.int .i64 x] w fun e w' => ∃ v, e = .returned v ∧ Txt w' B v (edgeZ x) ∧ Below w.heap.size w w' :=
  (edge_any x w).mono fun e w' ⟨v, F, h1, h2, h3, h4⟩ => ⟨v, h1, ⟨F, h2.base hB, h3⟩, h4⟩
theorem back_txt (x : Int) (w : World) (B : Nat) (hB : B ≤ w.heap.size) :
    Calls Tryd.prog 24 #[.int .i64 x] w fun e w' => ∃ v, e = .returned v ∧ Txt w' B v (backZ x) ∧ Below w.heap.size w w' :=
  (back_any x w).mono fun e w' ⟨v, F, h1, h2, h3, h4⟩ => ⟨v, h1, ⟨F, h2.base hB, h3⟩, h4⟩
theorem col_txt (n : Int) (f : ByteArray) (hf : f.size = 1) (hn : n ≤ 1000) (w : World) (B : Nat) (hB : B ≤ w.heap.size) (htab : Lib.TabIs Tryd.prog w "internal/strconv.uint64pow10" .u64 Lib.pow10Tab) :
    Calls Tryd.prog 25 #[.int .i64 n, .string f] w fun e w' => ∃ v, e = .returned v ∧ Txt w' B v (colZ n f) ∧ Below w.heap.size w w' :=
  (col_any n f hf hn w htab).mono fun e w' ⟨v, F, h1, h2, h3, h4⟩ => ⟨v, h1, ⟨F, h2.base hB, h3⟩, h4⟩
theorem short_txt (vs : List Value) (ls : List (List Int)) (g n : Nat) (t : TypeId) (w : World) (B : Nat)
    (hl : vs.length = n) (hll : ls.length = n) (hn : n ≤ 100) (hh : w.heap[g]? = some (.cells vs.toArray t (0, 0))) (hv : ∀ i, i < n → Txt w B (vs[i]?.getD undef) (ls[i]?.getD [])) :
    Calls Tryd.prog 22 #[.slice (some ⟨g, 0, none⟩) n n] w fun e w' => ∃ v, e = .returned v ∧ Txt w' B v (pickL ls) ∧ Below w.heap.size w w' :=
  (shortest_any (fun v l => Txt w B v l) (fun v l h => h.val) vs ls g n t w hl hll hn hh hv (Txt.nil _ _)).mono fun e w' ⟨v, h1, h2, q, h3⟩ => by
    subst h3
    have hb := below_drewN (Below.refl w.heap.size w) q
    exact ⟨v, h1, h2.later hb, hb⟩

/-- What EmitStep answers. -/
def stepOk (d : GrD) (x y : Int) : Bool := gokB d && placeB d.1 d.2.1 x y
def stepA (d : GrD) (x y : Int) : List Int := if stepOk d x y = true then stepZ d.2.2.2.1 d.2.2.2.2.1 d.2.2.2.2.2.1 x y else []
theorem stepA_no {d : GrD} {x y : Int} (h : stepOk d x y = false) : stepA d x y = [] := by unfold stepA; rw [h]; rfl
theorem stepA_yes {d : GrD} {x y : Int} (h : stepOk d x y = true) : stepA d x y = stepZ d.2.2.2.1 d.2.2.2.2.1 d.2.2.2.2.2.1 x y := by unfold stepA; rw [h]; rfl

set_option maxHeartbeats 4000000 in
theorem implStep_no (x0 x1 x3 x4 : Int) (a : Option Addr) (n c : Nat) (x5 : Bool) (zs : List Int) (x y : Int) (w : World) (htab : Lib.TabIs Tryd.prog w "internal/strconv.uint64pow10" .u64 Lib.pow10Tab) (hr : Reads (.sl .int) w [.slice a n c] zs) (hok : stepOk (x0, x1, zs, x3, x4, x5, ()) x y = false) :
    Calls Tryd.prog 7 #[.agg #[.int .i64 x0, .int .i64 x1, .slice a n c, .int .i64 x3, .int .i64 x4, .bool x5], .int .i64 x, .int .i64 y] w fun e w' => ∃ v, e = .returned (.tuple #[v, .bool (stepOk (x0, x1, zs, x3, x4, x5, ()) x y)]) ∧ Txt w' w.heap.size v (stepA (x0, x1, zs, x3, x4, x5, ()) x y) ∧ Below w.heap.size w w' := by
  have ES : Hid (stepOk (x0, x1, zs, x3, x4, x5, ()) x y = false) := hok
  have EA : Hid (stepA (x0, x1, zs, x3, x4, x5, ()) x y = []) := stepA_no hok
  obtain ⟨W0, hW0⟩ : ∃ W0, W0 = w.alloc (.cells #[.int .i64 x0, .int .i64 x1, .slice a n c, .int .i64 x3, .int .i64 x4, .bool x5] 29) := ⟨_, rfl⟩
  have bW0 : Below w.heap.size w W0 := by rw [hW0]; exact (Below.refl _ _).alloc (Nat.le_refl _) _
  have hbox : W0.heap[w.heap.size]? = some (.cells #[.int .i64 x0, .int .i64 x1, .slice a n c, .int .i64 x3, .int .i64 x4, .bool x5] 29 (0, 0)) := by rw [hW0]; exact heap_alloc_new w _
  have zW0 : W0.heap.size = w.heap.size + 1 := by rw [hW0]; simp
  have HW0 : Hid (W0 = _) := hW0
  have HBX : Hid (∀ w', Below W0.heap.size W0 w' → w'.heap[w.heap.size]? = some (.cells #[.int .i64 x0, .int .i64 x1, .slice a n c, .int .i64 x3, .int .i64 x4, .bool x5] 29 (0, 0))) := fun w' h' => (h'.block _ (by omega)).trans hbox
  have HB0 : Hid (Below w.heap.size w W0) := bW0
  clear hW0 hbox
  have y0' := HBX.out W0 (Below.refl _ _)
  have y0 : W0.cell? ⟨w.heap.size, 0, none⟩ = some (.int .i64 x0) := box_cell y0' rfl
  have y1 : W0.cell? ⟨w.heap.size, 1, none⟩ = some (.int .i64 x1) := box_cell y0' rfl
  have y2 : W0.cell? ⟨w.heap.size, 2, none⟩ = some (.slice a n c) := box_cell y0' rfl
  have y3 : W0.cell? ⟨w.heap.size, 3, none⟩ = some (.int .i64 x3) := box_cell y0' rfl
  have y4 : W0.cell? ⟨w.heap.size, 4, none⟩ = some (.int .i64 x4) := box_cell y0' rfl
  have y5 : W0.cell? ⟨w.heap.size, 5, none⟩ = some (.bool x5) := box_cell y0' rfl
  clear y0'
  have qg : Hid (∀ w', Below w.heap.size w w' → Calls Tryd.prog 19 #[.agg #[.int .i64 x0, .int .i64 x1, .slice a n c, .int .i64 x3, .int .i64 x4, .bool x5]] w' fun e w'' => e = .returned (.bool (gokB (x0, x1, zs, x3, x4, x5, ()))) ∧ Below w'.heap.size w' w'') := fun w' hb => gok_any x0 x1 x3 x4 a n c x5 zs w' (hr.later hb)
  have qp : Hid (∀ w', Calls Tryd.prog 20 #[.agg #[.int .i64 x0, .int .i64 x1, .slice a n c, .int .i64 x3, .int .i64 x4, .bool x5], .int .i64 x, .int .i64 y] w' fun e w'' => e = .returned (.bool (placeB x0 x1 x y)) ∧ Below w'.heap.size w' w'') := fun w' => place_any x0 x1 x3 x4 a n c x5 x y w'
  cases hgv : gokB (x0, x1, zs, x3, x4, x5, ()) with
  | false =>
    have HG : Hid (gokB (x0, x1, zs, x3, x4, x5, ()) = false) := hgv
    clear hok hgv
    go_enter Tryd.func7, Tryd.ntmps7
    go_wp2_with fail
    rw [← HW0.out]
    refine (qg.out _ HB0.out).mono ?_
    rintro e w1 ⟨rfl, hb1⟩
    rw [HG.out]
    have b1 := HB0.out.trans (hb1.mono HB0.out.size)
    clear y0 y1 y2 y3 y4 y5
    have HH : Hid (_ ∧ _) := ⟨Txt.nil w1 w.heap.size, b1⟩
    go_wp2
    go_ret2
    exact ⟨_, by rw [ES.out]; rfl, by rw [EA.out]; exact HH.out.1, HH.out.2⟩
  | true =>
    have HG : Hid (gokB (x0, x1, zs, x3, x4, x5, ()) = true) := hgv
    have HP : Hid (placeB x0 x1 x y = false) := by show _ = _; unfold stepOk at hok; rw [hgv] at hok; simpa using hok
    clear hok hgv
    go_enter Tryd.func7, Tryd.ntmps7
    go_wp2_with fail
    rw [← HW0.out]
    refine (qg.out _ HB0.out).mono ?_
    rintro e w1 ⟨rfl, hb1⟩
    rw [HG.out]
    have b1 := HB0.out.trans (hb1.mono HB0.out.size)
    clear y0 y1 y2 y3 y4 y5
    have i_w1 := HBX.out w1 hb1
    have y0 : w1.cell? ⟨w.heap.size, 0, none⟩ = some (.int .i64 x0) := box_cell i_w1 rfl
    have y1 : w1.cell? ⟨w.heap.size, 1, none⟩ = some (.int .i64 x1) := box_cell i_w1 rfl
    have y2 : w1.cell? ⟨w.heap.size, 2, none⟩ = some (.slice a n c) := box_cell i_w1 rfl
    have y3 : w1.cell? ⟨w.heap.size, 3, none⟩ = some (.int .i64 x3) := box_cell i_w1 rfl
    have y4 : w1.cell? ⟨w.heap.size, 4, none⟩ = some (.int .i64 x4) := box_cell i_w1 rfl
    have y5 : w1.cell? ⟨w.heap.size, 5, none⟩ = some (.bool x5) := box_cell i_w1 rfl
    clear i_w1
    have k1 := hb1
    go_wp2_with fail
    refine (qp.out _).mono ?_
    rintro e w2 ⟨rfl, hb2⟩
    rw [HP.out]
    have b2 := b1.trans (hb2.mono b1.size)
    have k2 := k1.trans (hb2.mono k1.size)
    have t2 := tab_later htab b2
    have zs2 := b2.size
    clear y0 y1 y2 y3 y4 y5 b1 k1 hb1 hb2
    have i_w2 := HBX.out w2 k2
    have y0 : w2.cell? ⟨w.heap.size, 0, none⟩ = some (.int .i64 x0) := box_cell i_w2 rfl
    have y1 : w2.cell? ⟨w.heap.size, 1, none⟩ = some (.int .i64 x1) := box_cell i_w2 rfl
    have y2 : w2.cell? ⟨w.heap.size, 2, none⟩ = some (.slice a n c) := box_cell i_w2 rfl
    have y3 : w2.cell? ⟨w.heap.size, 3, none⟩ = some (.int .i64 x3) := box_cell i_w2 rfl
    have y4 : w2.cell? ⟨w.heap.size, 4, none⟩ = some (.int .i64 x4) := box_cell i_w2 rfl
    have y5 : w2.cell? ⟨w.heap.size, 5, none⟩ = some (.bool x5) := box_cell i_w2 rfl
    clear i_w2
    have HH : Hid (_ ∧ _) := ⟨Txt.nil w2 w.heap.size, b2⟩
    go_wp2
    go_ret2
    exact ⟨_, by rw [ES.out]; rfl, by rw [EA.out]; exact HH.out.1, HH.out.2⟩

set_option maxHeartbeats 4000000 in
theorem implStep_row (x0 x1 x3 x4 : Int) (a : Option Addr) (n c : Nat) (x5 : Bool) (zs : List Int) (x y : Int) (w : World) (htab : Lib.TabIs Tryd.prog w "internal/strconv.uint64pow10" .u64 Lib.pow10Tab) (hr : Reads (.sl .int) w [.slice a n c] zs) (hok : stepOk (x0, x1, zs, x3, x4, x5, ()) x y = true) (hx : 0 ≤ x ∧ x < 200 ∧ 0 ≤ y ∧ y < 200) (hX : 0 ≤ x3 ∧ x3 < 200) (hy : y ≠ x4) :
    Calls Tryd.prog 7 #[.agg #[.int .i64 x0, .int .i64 x1, .slice a n c, .int .i64 x3, .int .i64 x4, .bool x5], .int .i64 x, .int .i64 y] w fun e w' => ∃ v, e = .returned (.tuple #[v, .bool (stepOk (x0, x1, zs, x3, x4, x5, ()) x y)]) ∧ Txt w' w.heap.size v (stepA (x0, x1, zs, x3, x4, x5, ()) x y) ∧ Below w.heap.size w w' := by
  have ES : Hid (stepOk (x0, x1, zs, x3, x4, x5, ()) x y = true) := hok
  have EA0 := stepA_yes hok
  have EA : Hid (stepA (x0, x1, zs, x3, x4, x5, ()) x y = gotoZ x y) := by show _ = _; rw [EA0]; unfold stepZ; rw [if_pos hy]
  have dy : (y != x4) = true := by simpa using hy
  have hgp : gokB (x0, x1, zs, x3, x4, x5, ()) = true ∧ placeB x0 x1 x y = true := by unfold stepOk at hok; simpa using hok
  have HG : Hid (gokB (x0, x1, zs, x3, x4, x5, ()) = true) := hgp.1
  have HP : Hid (placeB x0 x1 x y = true) := hgp.2
  obtain ⟨W0, hW0⟩ : ∃ W0, W0 = w.alloc (.cells #[.int .i64 x0, .int .i64 x1, .slice a n c, .int .i64 x3, .int .i64 x4, .bool x5] 29) := ⟨_, rfl⟩
  have bW0 : Below w.heap.size w W0 := by rw [hW0]; exact (Below.refl _ _).alloc (Nat.le_refl _) _
  have hbox : W0.heap[w.heap.size]? = some (.cells #[.int .i64 x0, .int .i64 x1, .slice a n c, .int .i64 x3, .int .i64 x4, .bool x5] 29 (0, 0)) := by rw [hW0]; exact heap_alloc_new w _
  have zW0 : W0.heap.size = w.heap.size + 1 := by rw [hW0]; simp
  have HW0 : Hid (W0 = _) := hW0
  have HBX : Hid (∀ w', Below W0.heap.size W0 w' → w'.heap[w.heap.size]? = some (.cells #[.int .i64 x0, .int .i64 x1, .slice a n c, .int .i64 x3, .int .i64 x4, .bool x5] 29 (0, 0))) := fun w' h' => (h'.block _ (by omega)).trans hbox
  have HB0 : Hid (Below w.heap.size w W0) := bW0
  clear hW0 hbox
  have y0' := HBX.out W0 (Below.refl _ _)
  have y0 : W0.cell? ⟨w.heap.size, 0, none⟩ = some (.int .i64 x0) := box_cell y0' rfl
  have y1 : W0.cell? ⟨w.heap.size, 1, none⟩ = some (.int .i64 x1) := box_cell y0' rfl
  have y2 : W0.cell? ⟨w.heap.size, 2, none⟩ = some (.slice a n c) := box_cell y0' rfl
  have y3 : W0.cell? ⟨w.heap.size, 3, none⟩ = some (.int .i64 x3) := box_cell y0' rfl
  have y4 : W0.cell? ⟨w.heap.size, 4, none⟩ = some (.int .i64 x4) := box_cell y0' rfl
  have y5 : W0.cell? ⟨w.heap.size, 5, none⟩ = some (.bool x5) := box_cell y0' rfl
  clear y0'
  have qg : Hid (∀ w', Below w.heap.size w w' → Calls Tryd.prog 19 #[.agg #[.int .i64 x0, .int .i64 x1, .slice a n c, .int .i64 x3, .int .i64 x4, .bool x5]] w' fun e w'' => e = .returned (.bool (gokB (x0, x1, zs, x3, x4, x5, ()))) ∧ Below w'.heap.size w' w'') := fun w' hb => gok_any x0 x1 x3 x4 a n c x5 zs w' (hr.later hb)
  have qp : Hid (∀ w', Calls Tryd.prog 20 #[.agg #[.int .i64 x0, .int .i64 x1, .slice a n c, .int .i64 x3, .int .i64 x4, .bool x5], .int .i64 x, .int .i64 y] w' fun e w'' => e = .returned (.bool (placeB x0 x1 x y)) ∧ Below w'.heap.size w' w'') := fun w' => place_any x0 x1 x3 x4 a n c x5 x y w'
  clear hok hgp EA0
  go_enter Tryd.func7, Tryd.ntmps7
  go_wp2_with fail
  rw [← HW0.out]
  refine (qg.out _ HB0.out).mono ?_
  rintro e w1 ⟨rfl, hb1⟩
  rw [HG.out]
  have b1 := HB0.out.trans (hb1.mono HB0.out.size)
  clear y0 y1 y2 y3 y4 y5
  have i_w1 := HBX.out w1 hb1
  have y0 : w1.cell? ⟨w.heap.size, 0, none⟩ = some (.int .i64 x0) := box_cell i_w1 rfl
  have y1 : w1.cell? ⟨w.heap.size, 1, none⟩ = some (.int .i64 x1) := box_cell i_w1 rfl
  have y2 : w1.cell? ⟨w.heap.size, 2, none⟩ = some (.slice a n c) := box_cell i_w1 rfl
  have y3 : w1.cell? ⟨w.heap.size, 3, none⟩ = some (.int .i64 x3) := box_cell i_w1 rfl
  have y4 : w1.cell? ⟨w.heap.size, 4, none⟩ = some (.int .i64 x4) := box_cell i_w1 rfl
  have y5 : w1.cell? ⟨w.heap.size, 5, none⟩ = some (.bool x5) := box_cell i_w1 rfl
  clear i_w1
  have k1 := hb1
  go_wp2_with fail
  refine (qp.out _).mono ?_
  rintro e w2 ⟨rfl, hb2⟩
  rw [HP.out]
  have b2 := b1.trans (hb2.mono b1.size)
  have k2 := k1.trans (hb2.mono k1.size)
  have t2 := tab_later htab b2
  have zs2 := b2.size
  clear y0 y1 y2 y3 y4 y5 b1 k1 hb1 hb2
  have i_w2 := HBX.out w2 k2
  have y0 : w2.cell? ⟨w.heap.size, 0, none⟩ = some (.int .i64 x0) := box_cell i_w2 rfl
  have y1 : w2.cell? ⟨w.heap.size, 1, none⟩ = some (.int .i64 x1) := box_cell i_w2 rfl
  have y2 : w2.cell? ⟨w.heap.size, 2, none⟩ = some (.slice a n c) := box_cell i_w2 rfl
  have y3 : w2.cell? ⟨w.heap.size, 3, none⟩ = some (.int .i64 x3) := box_cell i_w2 rfl
  have y4 : w2.cell? ⟨w.heap.size, 4, none⟩ = some (.int .i64 x4) := box_cell i_w2 rfl
  have y5 : w2.cell? ⟨w.heap.size, 5, none⟩ = some (.bool x5) := box_cell i_w2 rfl
  clear i_w2
  clear hy hX
  go_wp2_with fail
  refine (goto_txt x y w2 w.heap.size zs2 t2).mono ?_
  rintro e w3 ⟨v3, rfl, p3, hb3⟩
  have b3 := b2.trans (hb3.mono b2.size)
  have k3 := k2.trans (hb3.mono k2.size)
  have t3 := tab_later t2 hb3
  have zs3 := b3.size
  have HH : Hid (_ ∧ _) := ⟨p3, b3⟩
  clear p3 b3 hb3 k3 t3 k2 t2 b2
  go_wp2
  go_ret2
  exact ⟨_, by rw [ES.out]; rfl, by rw [EA.out]; exact HH.out.1, HH.out.2⟩

end Go.Proofs.YthgbionamelloaaDoor
