/-
  DiskNew, the model's and the program's; the walk of the law FnExactDiskNew.
-/
import Derived.Test.YtpdgjejgjbjamaaMkDisk
namespace Go.Proofs.Ytpdgjejgjbjamaa
open Go.RowKit
set_option linter.unusedVariables false

/-- The disk of DiskNew, and its word. -/
def newR (room : Int) : Int := if room < 0 ∨ 60000 < room then 0 else room
def newF (room : Int) : Int := if room < 0 ∨ 60000 < room then 0 else -1
def newN (room : Int) : Int := if room < 0 ∨ 60000 < room then 0 else 1
def newB (room : Int) : Bool := if room < 0 ∨ 60000 < room then false else true
def newD (room : Int) : shDisk.D := (newR room, newF room, newN room, [], [], [], ())
def newC (room : Int) : List Value := [.int .i64 (newR room), .int .i64 (newF room), .int .i64 (newN room), .slice none 0 0, .slice none 0 0, .slice none 0 0]

theorem own_new (room : Int) (w : World) (B : Nat) : Own shDisk w B (newC room) (newD room) [] :=
  own_Disk (d := newD room) (F3 := []) (F4 := []) (F5 := []) (.inl ⟨rfl, rfl, rfl⟩) (.inl ⟨rfl, rfl, rfl⟩) (.inl ⟨rfl, rfl, rfl⟩)

theorem specNew_any (room : Int) (w : World) :
    Calls Try.prog 17 #[.int .i64 room] w fun e w' => e = .returned (.tuple #[.agg (newC room).toArray, .bool (newB room)]) ∧ Below w.heap.size w w' := by
  unfold newC newB newR newF newN
  by_cases h1 : room < 0
  · simp only [h1, true_or, if_true]
    go_enter Try.func17, Try.ntmps17
    go_wp2
    go_returns
    exact ⟨rfl, (Below.refl _ _).alloc (Nat.le_refl _) _⟩
  · by_cases h2 : 60000 < room
    · simp only [h2, or_true, if_true]
      go_enter Try.func17, Try.ntmps17
      go_wp2
      go_returns
      exact ⟨rfl, (Below.refl _ _).alloc (Nat.le_refl _) _⟩
    · simp only [h1, h2, or_false, if_false]
      go_enter Try.func17, Try.ntmps17
      go_wp2
      go_returns
      exact ⟨rfl, (Below.refl _ _).alloc (Nat.le_refl _) _⟩

theorem implNew_any (room : Int) (w : World) :
    Calls Try.prog 18 #[.int .i64 room] w fun e w' => e = .returned (.tuple #[.agg (newC room).toArray, .bool (newB room)]) ∧ Below w.heap.size w w' := by
  unfold newC newB newR newF newN
  by_cases h1 : room < 0
  · have h1' : ¬ 0 ≤ room := by omega
    simp only [h1, true_or, if_true]
    go_enter Try.func18, Try.ntmps18
    go_wp2
    go_returns
    exact ⟨rfl, (Below.refl _ _).alloc (Nat.le_refl _) _⟩
  · have h1' : 0 ≤ room := by omega
    by_cases h2 : 60000 < room
    · have h2' : ¬ room ≤ 60000 := by omega
      simp only [h2, or_true, if_true]
      go_enter Try.func18, Try.ntmps18
      go_wp2
      go_returns
      exact ⟨rfl, (Below.refl _ _).alloc (Nat.le_refl _) _⟩
    · have h2' : room ≤ 60000 := by omega
      simp only [h1, h2, or_false, if_false]
      go_enter Try.func18, Try.ntmps18
      go_wp2
      go_returns
      exact ⟨rfl, (Below.refl _ _).alloc (Nat.le_refl _) _⟩

theorem mkV_new (room : Int) : shDisk.cntV (newD room) = 0 ∧ shDisk.mkV (newD room) 1 = newD room := by
  exact ⟨rfl, rfl⟩

set_option maxRecDepth 100000 in
set_option maxHeartbeats 2000000 in
theorem diskNew_law (room : Int) (w : World) :
    Calls Try.prog 6 #[.int .i64 room] w fun e w' => e = .returned (.bool true) ∧ Below w.heap.size w w' := by
  obtain ⟨x0, e0⟩ : ∃ x : Int, x = newR room := ⟨_, rfl⟩
  obtain ⟨x1, e1⟩ : ∃ x : Int, x = newF room := ⟨_, rfl⟩
  obtain ⟨x2, e2⟩ : ∃ x : Int, x = newN room := ⟨_, rfl⟩
  obtain ⟨b, eb⟩ : ∃ b, b = newB room := ⟨_, rfl⟩
  have hC : newC room = [.int .i64 x0, .int .i64 x1, .int .i64 x2, .slice none 0 0, .slice none 0 0, .slice none 0 0] := by unfold newC; rw [← e0, ← e1, ← e2]
  have hz : shDisk.sz (newD room) = 0 := rfl
  have hs : shDisk.sz (newD room) ≤ 1048576 := by omega
  have qS : Hid (∀ w', Calls Try.prog 17 #[.int .i64 room] w' fun e w'' => e = .returned (.tuple #[.agg #[.int .i64 x0, .int .i64 x1, .int .i64 x2, .slice none 0 0, .slice none 0 0, .slice none 0 0], .bool b]) ∧ Below w'.heap.size w' w'') := fun w' => by
    have := specNew_any room w'; rw [hC, ← eb] at this; exact this
  have qI : Hid (∀ w', Calls Try.prog 18 #[.int .i64 room] w' fun e w'' => e = .returned (.tuple #[.agg #[.int .i64 x0, .int .i64 x1, .int .i64 x2, .slice none 0 0, .slice none 0 0, .slice none 0 0], .bool b]) ∧ Below w'.heap.size w' w'') := fun w' => by
    have := implNew_any room w'; rw [hC, ← eb] at this; exact this
  have oN : ∀ w', Own shDisk w' 0 [.int .i64 x0, .int .i64 x1, .int .i64 x2, .slice none 0 0, .slice none 0 0, .slice none 0 0] (newD room) [] := fun w' => by have := own_new room w' 0; rw [hC] at this; exact this
  have qE : Hid (∀ w', Calls Try.prog 14 #[.agg #[.int .i64 x0, .int .i64 x1, .int .i64 x2, .slice none 0 0, .slice none 0 0, .slice none 0 0], .agg #[.int .i64 x0, .int .i64 x1, .int .i64 x2, .slice none 0 0, .slice none 0 0, .slice none 0 0]] w' fun e w'' => e = .returned (.bool true) ∧ Below w'.heap.size w' w'') := fun w' =>
    eqDisk_any _ _ (newD room) w' (oN w').reads (oN w').reads hs
  have qM : Hid (∀ w', Calls Try.prog 19 #[.agg #[.int .i64 x0, .int .i64 x1, .int .i64 x2, .slice none 0 0, .slice none 0 0, .slice none 0 0], .int .i64 1] w' fun e w'' => e = .returned (.int .i64 1) ∧ Below w'.heap.size w' w'') := fun w' => by
    refine (markDisk_own _ 0 1 (newD room) [] w' (oN w') (by simp) (Nat.le_refl _) (by rw [(mkV_new room).1]; omega)).mono ?_
    rintro e w'' ⟨rfl, _, ht⟩
    exact ⟨by rw [(mkV_new room).1]; rfl, ht.below (Below.refl _ _) (Nat.le_refl _) (fun g hg => by cases hg)⟩
  have qH : Hid (∀ w', Calls Try.prog 20 #[.agg #[.int .i64 x0, .int .i64 x1, .int .i64 x2, .slice none 0 0, .slice none 0 0, .slice none 0 0], .int .i64 1] w' fun e w'' => e = .returned (.int .i64 1) ∧ Below w'.heap.size w' w'') := fun w' => by
    refine (heldDisk_own _ 0 1 (newD room) [] w' (by rw [(mkV_new room).2]; exact oN w') (by simp) (Nat.le_refl _) (by rw [(mkV_new room).1]; omega)).mono ?_
    rintro e w'' ⟨rfl, hb⟩
    exact ⟨by rw [(mkV_new room).1]; rfl, hb⟩
  have hne : (b != b) = false := by cases b <;> rfl
  clear e0 e1 e2 eb hC hs hz oN
  go_enter Try.func6, Try.ntmps6
  go_wp2_with fail
  refine (qS.out _).mono ?_
  rintro e w1 ⟨rfl, hb1⟩
  have b1 : Below w.heap.size w w1 := hb1
  clear hb1
  go_wp2_with fail
  obtain ⟨W1, hW1⟩ : ∃ W, W = w1.alloc (.cells #[.int .i64 x0, .int .i64 x1, .int .i64 x2, .slice none 0 0, .slice none 0 0, .slice none 0 0] 34) := ⟨_, rfl⟩
  have bw1 : Below w1.heap.size w1 W1 := by rw [hW1]; exact (Below.refl _ _).alloc (Nat.le_refl _) _
  have hx1 : W1.heap[w1.heap.size]? = some (.cells #[.int .i64 x0, .int .i64 x1, .int .i64 x2, .slice none 0 0, .slice none 0 0, .slice none 0 0] 34 (0, 0)) := by rw [hW1]; exact heap_alloc_new w1 _
  have zW1 : W1.heap.size = w1.heap.size + 1 := by rw [hW1]; simp
  rw [← hW1]
  clear hW1
  have B1 := b1.trans (bw1.mono b1.size)
  clear bw1
  refine (qI.out _).mono ?_
  rintro e w2 ⟨rfl, hb2⟩
  have b2 := B1.trans (hb2.mono B1.size)
  have z2 := hb2.size
  have i2 : w2.heap[w1.heap.size]? = some (.cells #[.int .i64 x0, .int .i64 x1, .int .i64 x2, .slice none 0 0, .slice none 0 0, .slice none 0 0] 34 (0, 0)) := (hb2.block _ (by omega)).trans hx1
  have zl : w1.heap.size < w2.heap.size := by omega
  have y0 : w2.cell? ⟨w1.heap.size, 0, none⟩ = some (.int .i64 x0) := box_cell i2 rfl
  have y1 : w2.cell? ⟨w1.heap.size, 1, none⟩ = some (.int .i64 x1) := box_cell i2 rfl
  have y2 : w2.cell? ⟨w1.heap.size, 2, none⟩ = some (.int .i64 x2) := box_cell i2 rfl
  have y3 : w2.cell? ⟨w1.heap.size, 3, none⟩ = some (.slice none 0 0) := box_cell i2 rfl
  have y4 : w2.cell? ⟨w1.heap.size, 4, none⟩ = some (.slice none 0 0) := box_cell i2 rfl
  have y5 : w2.cell? ⟨w1.heap.size, 5, none⟩ = some (.slice none 0 0) := box_cell i2 rfl
  have HI2 : Hid (w2.heap[w1.heap.size]? = some (.cells #[.int .i64 x0, .int .i64 x1, .int .i64 x2, .slice none 0 0, .slice none 0 0, .slice none 0 0] 34 (0, 0))) := i2
  clear hb2 hx1 i2
  go_wp2_with fail
  clear y0 y1 y2 y3 y4 y5
  obtain ⟨W2, hW2⟩ : ∃ W, W = w2.alloc (.cells #[.int .i64 x0, .int .i64 x1, .int .i64 x2, .slice none 0 0, .slice none 0 0, .slice none 0 0] 34) := ⟨_, rfl⟩
  have bw2 : Below w2.heap.size w2 W2 := by rw [hW2]; exact (Below.refl _ _).alloc (Nat.le_refl _) _
  have hx2 : W2.heap[w2.heap.size]? = some (.cells #[.int .i64 x0, .int .i64 x1, .int .i64 x2, .slice none 0 0, .slice none 0 0, .slice none 0 0] 34 (0, 0)) := by rw [hW2]; exact heap_alloc_new w2 _
  have zW2 : W2.heap.size = w2.heap.size + 1 := by rw [hW2]; simp
  rw [← hW2]
  clear hW2
  have B2 := b2.trans (bw2.mono b2.size)
  have I2 : W2.heap[w1.heap.size]? = some (.cells #[.int .i64 x0, .int .i64 x1, .int .i64 x2, .slice none 0 0, .slice none 0 0, .slice none 0 0] 34 (0, 0)) := (bw2.block _ zl).trans HI2.out
  refine (qE.out _).mono ?_
  rintro e w3 ⟨rfl, hb3⟩
  have b3 := B2.trans (hb3.mono B2.size)
  have z3 := hb3.size
  have iA : w3.heap[w1.heap.size]? = some (.cells #[.int .i64 x0, .int .i64 x1, .int .i64 x2, .slice none 0 0, .slice none 0 0, .slice none 0 0] 34 (0, 0)) := (hb3.block _ (by omega)).trans I2
  have iB : w3.heap[w2.heap.size]? = some (.cells #[.int .i64 x0, .int .i64 x1, .int .i64 x2, .slice none 0 0, .slice none 0 0, .slice none 0 0] 34 (0, 0)) := (hb3.block _ (by omega)).trans hx2
  have y0 : w3.cell? ⟨w2.heap.size, 0, none⟩ = some (.int .i64 x0) := box_cell iB rfl
  have y1 : w3.cell? ⟨w2.heap.size, 1, none⟩ = some (.int .i64 x1) := box_cell iB rfl
  have y2 : w3.cell? ⟨w2.heap.size, 2, none⟩ = some (.int .i64 x2) := box_cell iB rfl
  have y3 : w3.cell? ⟨w2.heap.size, 3, none⟩ = some (.slice none 0 0) := box_cell iB rfl
  have y4 : w3.cell? ⟨w2.heap.size, 4, none⟩ = some (.slice none 0 0) := box_cell iB rfl
  have y5 : w3.cell? ⟨w2.heap.size, 5, none⟩ = some (.slice none 0 0) := box_cell iB rfl
  have H3 : Hid (w3.heap[w1.heap.size]? = some (.cells #[.int .i64 x0, .int .i64 x1, .int .i64 x2, .slice none 0 0, .slice none 0 0, .slice none 0 0] 34 (0, 0)) ∧ w3.heap[w2.heap.size]? = some (.cells #[.int .i64 x0, .int .i64 x1, .int .i64 x2, .slice none 0 0, .slice none 0 0, .slice none 0 0] 34 (0, 0))) := ⟨iA, iB⟩
  clear hb3 iA iB I2 hx2 bw2 HI2
  go_wp2_with fail
  refine (qM.out _).mono ?_
  rintro e w4 ⟨rfl, hb4⟩
  have b4 := b3.trans (hb4.mono b3.size)
  have z4 := hb4.size
  have iA : w4.heap[w1.heap.size]? = some (.cells #[.int .i64 x0, .int .i64 x1, .int .i64 x2, .slice none 0 0, .slice none 0 0, .slice none 0 0] 34 (0, 0)) := (hb4.block _ (by omega)).trans H3.out.1
  have iB : w4.heap[w2.heap.size]? = some (.cells #[.int .i64 x0, .int .i64 x1, .int .i64 x2, .slice none 0 0, .slice none 0 0, .slice none 0 0] 34 (0, 0)) := (hb4.block _ (by omega)).trans H3.out.2
  clear y0 y1 y2 y3 y4 y5
  have y0 : w4.cell? ⟨w2.heap.size, 0, none⟩ = some (.int .i64 x0) := box_cell iB rfl
  have y1 : w4.cell? ⟨w2.heap.size, 1, none⟩ = some (.int .i64 x1) := box_cell iB rfl
  have y2 : w4.cell? ⟨w2.heap.size, 2, none⟩ = some (.int .i64 x2) := box_cell iB rfl
  have y3 : w4.cell? ⟨w2.heap.size, 3, none⟩ = some (.slice none 0 0) := box_cell iB rfl
  have y4 : w4.cell? ⟨w2.heap.size, 4, none⟩ = some (.slice none 0 0) := box_cell iB rfl
  have y5 : w4.cell? ⟨w2.heap.size, 5, none⟩ = some (.slice none 0 0) := box_cell iB rfl
  have H4 : Hid (w4.heap[w1.heap.size]? = some (.cells #[.int .i64 x0, .int .i64 x1, .int .i64 x2, .slice none 0 0, .slice none 0 0, .slice none 0 0] 34 (0, 0)) ∧ w4.heap[w2.heap.size]? = some (.cells #[.int .i64 x0, .int .i64 x1, .int .i64 x2, .slice none 0 0, .slice none 0 0, .slice none 0 0] 34 (0, 0))) := ⟨iA, iB⟩
  clear hb4 iA iB H3
  go_wp2_with fail
  refine (qH.out _).mono ?_
  rintro e w5 ⟨rfl, hb5⟩
  have b5 := b4.trans (hb5.mono b4.size)
  have z5 := hb5.size
  have iA : w5.heap[w1.heap.size]? = some (.cells #[.int .i64 x0, .int .i64 x1, .int .i64 x2, .slice none 0 0, .slice none 0 0, .slice none 0 0] 34 (0, 0)) := (hb5.block _ (by omega)).trans H4.out.1
  have iB : w5.heap[w2.heap.size]? = some (.cells #[.int .i64 x0, .int .i64 x1, .int .i64 x2, .slice none 0 0, .slice none 0 0, .slice none 0 0] 34 (0, 0)) := (hb5.block _ (by omega)).trans H4.out.2
  clear y0 y1 y2 y3 y4 y5
  have H5 : Hid (w5.heap[w1.heap.size]? = some (.cells #[.int .i64 x0, .int .i64 x1, .int .i64 x2, .slice none 0 0, .slice none 0 0, .slice none 0 0] 34 (0, 0)) ∧ w5.heap[w2.heap.size]? = some (.cells #[.int .i64 x0, .int .i64 x1, .int .i64 x2, .slice none 0 0, .slice none 0 0, .slice none 0 0] 34 (0, 0))) := ⟨iA, iB⟩
  clear hb5 iA iB H4
  go_wp2_with fail
  refine (qI.out _).mono ?_
  rintro e w6 ⟨rfl, hb6⟩
  have b6 := b5.trans (hb6.mono b5.size)
  have z6 := hb6.size
  have iA : w6.heap[w1.heap.size]? = some (.cells #[.int .i64 x0, .int .i64 x1, .int .i64 x2, .slice none 0 0, .slice none 0 0, .slice none 0 0] 34 (0, 0)) := (hb6.block _ (by omega)).trans H5.out.1
  have iB : w6.heap[w2.heap.size]? = some (.cells #[.int .i64 x0, .int .i64 x1, .int .i64 x2, .slice none 0 0, .slice none 0 0, .slice none 0 0] 34 (0, 0)) := (hb6.block _ (by omega)).trans H5.out.2
  have zl6 : w1.heap.size < w6.heap.size := by omega
  have zm6 : w2.heap.size < w6.heap.size := by omega
  have y0 : w6.cell? ⟨w1.heap.size, 0, none⟩ = some (.int .i64 x0) := box_cell iA rfl
  have y1 : w6.cell? ⟨w1.heap.size, 1, none⟩ = some (.int .i64 x1) := box_cell iA rfl
  have y2 : w6.cell? ⟨w1.heap.size, 2, none⟩ = some (.int .i64 x2) := box_cell iA rfl
  have y3 : w6.cell? ⟨w1.heap.size, 3, none⟩ = some (.slice none 0 0) := box_cell iA rfl
  have y4 : w6.cell? ⟨w1.heap.size, 4, none⟩ = some (.slice none 0 0) := box_cell iA rfl
  have y5 : w6.cell? ⟨w1.heap.size, 5, none⟩ = some (.slice none 0 0) := box_cell iA rfl
  have H6 : Hid (w6.heap[w1.heap.size]? = some (.cells #[.int .i64 x0, .int .i64 x1, .int .i64 x2, .slice none 0 0, .slice none 0 0, .slice none 0 0] 34 (0, 0)) ∧ w6.heap[w2.heap.size]? = some (.cells #[.int .i64 x0, .int .i64 x1, .int .i64 x2, .slice none 0 0, .slice none 0 0, .slice none 0 0] 34 (0, 0))) := ⟨iA, iB⟩
  clear hb6 iA iB H5
  go_wp2_with fail
  clear y0 y1 y2 y3 y4 y5
  obtain ⟨W6, hW6⟩ : ∃ W, W = w6.alloc (.cells #[.int .i64 x0, .int .i64 x1, .int .i64 x2, .slice none 0 0, .slice none 0 0, .slice none 0 0] 34) := ⟨_, rfl⟩
  have bw6 : Below w6.heap.size w6 W6 := by rw [hW6]; exact (Below.refl _ _).alloc (Nat.le_refl _) _
  have hx6 : W6.heap[w6.heap.size]? = some (.cells #[.int .i64 x0, .int .i64 x1, .int .i64 x2, .slice none 0 0, .slice none 0 0, .slice none 0 0] 34 (0, 0)) := by rw [hW6]; exact heap_alloc_new w6 _
  have zW6 : W6.heap.size = w6.heap.size + 1 := by rw [hW6]; simp
  rw [← hW6]
  clear hW6
  have B6 := b6.trans (bw6.mono b6.size)
  have iB : W6.heap[w2.heap.size]? = some (.cells #[.int .i64 x0, .int .i64 x1, .int .i64 x2, .slice none 0 0, .slice none 0 0, .slice none 0 0] 34 (0, 0)) := (bw6.block _ zm6).trans H6.out.2
  refine (qE.out _).mono ?_
  rintro e w7 ⟨rfl, hb7⟩
  have b7 := B6.trans (hb7.mono B6.size)
  have z7 := hb7.size
  have i7 : w7.heap[w2.heap.size]? = some (.cells #[.int .i64 x0, .int .i64 x1, .int .i64 x2, .slice none 0 0, .slice none 0 0, .slice none 0 0] 34 (0, 0)) := (hb7.block _ (by omega)).trans iB
  have y0 : w7.cell? ⟨w2.heap.size, 0, none⟩ = some (.int .i64 x0) := box_cell i7 rfl
  have y1 : w7.cell? ⟨w2.heap.size, 1, none⟩ = some (.int .i64 x1) := box_cell i7 rfl
  have y2 : w7.cell? ⟨w2.heap.size, 2, none⟩ = some (.int .i64 x2) := box_cell i7 rfl
  have y3 : w7.cell? ⟨w2.heap.size, 3, none⟩ = some (.slice none 0 0) := box_cell i7 rfl
  have y4 : w7.cell? ⟨w2.heap.size, 4, none⟩ = some (.slice none 0 0) := box_cell i7 rfl
  have y5 : w7.cell? ⟨w2.heap.size, 5, none⟩ = some (.slice none 0 0) := box_cell i7 rfl
  clear hb7 iB i7 H6 bw6 hx6
  go_wp2_with fail
  refine (qH.out _).mono ?_
  rintro e w8 ⟨rfl, hb8⟩
  have b8 := b7.trans (hb8.mono b7.size)
  clear hb8 y0 y1 y2 y3 y4 y5
  go_wp2
  go_ret
  exact ⟨rfl, b8⟩

end Go.Proofs.Ytpdgjejgjbjamaa
