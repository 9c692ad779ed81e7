/-
  The program's sheets: sheetOf, moveTo, grid.
-/
import Derived.Test.YtmiggbdlhajkiaaGrR
import Derived.Test.YtmiggbdlhajkiaaOwnM
namespace Go.Proofs.Ytmiggbdlhajkiaa
open Go.RowKit
set_option linter.unusedVariables false

/-- A sheet in block p, its cells in block g. -/
structure SheetAt (w : World) (B p g n : Nat) (W H X Y : Int) (wr : Bool) (zs : List Int) : Prop where
  box : w.heap[p]? = some (.cells #[.int .i64 W, .int .i64 H, .slice (some ⟨g, 0, none⟩) n n, .int .i64 X, .int .i64 Y, .bool wr] 48 (0, 0))
  row : w.ownsRow B 3 1 (.slice (some ⟨g, 0, none⟩) n n) n (zs.map (Value.int .i64))
  len : zs.length = n
  lo : B ≤ p
  ne : p ≠ g

theorem box_lt {w : World} {b : Nat} {o : Obj} (h : w.heap[b]? = some o) : b < w.heap.size := by
  rcases Nat.lt_or_ge b w.heap.size with h' | h'
  · exact h'
  · rw [Array.getElem?_eq_none h'] at h; cases h

theorem SheetAt.later {w w' : World} {B p g n : Nat} {W H X Y : Int} {wr : Bool} {zs : List Int} (h : SheetAt w B p g n W H X Y wr zs) (hb : Below w.heap.size w w') : SheetAt w' B p g n W H X Y wr zs :=
  ⟨(hb.block _ (box_lt h.box)).trans h.box, own_later h.row hb, h.len, h.lo, h.ne⟩

theorem own_off {w : World} {B n g c : Nat} {e : TypeId} {size : Nat} {m : Nat} {xs : List Value} (h : w.ownsRow B e size (.slice (some ⟨g, 0, none⟩) m c) n xs) (b j : Nat) (u : Value) (hb : b ≠ g) : (w.setCell ⟨b, j, none⟩ u).ownsRow B e size (.slice (some ⟨g, 0, none⟩) m c) n xs := by
  refine ⟨h.1, ?_⟩
  rcases h.2 with h1 | ⟨g', cap, cur, hv, hg, hh, r⟩
  · exact .inl h1
  · have hv' := hv
    simp only [Value.slice.injEq, Option.some.injEq, Addr.mk.injEq, and_true] at hv
    exact .inr ⟨g', cap, cur, hv', hg, (box_other u (by omega)).trans hh, r⟩

theorem own_low {w : World} {B B' n g c : Nat} {e : TypeId} {size : Nat} {m : Nat} {xs : List Value} (h : w.ownsRow B e size (.slice (some ⟨g, 0, none⟩) m c) n xs) (hB : B' ≤ B) : w.ownsRow B' e size (.slice (some ⟨g, 0, none⟩) m c) n xs := by
  refine ⟨h.1, ?_⟩
  rcases h.2 with h1 | ⟨g', cap, cur, hv, hg, r⟩
  · exact .inl h1
  · exact .inr ⟨g', cap, cur, hv, Nat.le_trans hB hg, r⟩

/-- raised, its new block named by a letter. -/
theorem raised_ex (a : Option Addr) (n cap B : Nat) (zs : List Int) (k : Int) (w : World) (hB : B ≤ w.heap.size) (hl : zs.length = n) (hr : RdI w a zs) (hn : n ≤ 1048576) (hz : ∀ i, i < n → -1000000000 ≤ at0 zs i ∧ at0 zs i ≤ 1000000000) (hk0 : -1000 ≤ k) (hk1 : k ≤ 1000) :
    Calls Try.prog 36 #[.slice a n cap, .int .i64 k] w fun e w' => ∃ g, e = .returned (.slice (some ⟨g, 0, none⟩) n n) ∧ w.heap.size ≤ g ∧
      w'.ownsRow B 3 1 (.slice (some ⟨g, 0, none⟩) n n) n ((up k zs).map (Value.int .i64)) ∧ Below w.heap.size w w' := by
  refine (raised_any a n cap zs k w hl hr hn hz hk0 hk1).mono ?_
  rintro e w' ⟨rfl, ho, hb⟩
  exact ⟨_, rfl, Nat.le_refl _, own_low ho hB, hb⟩

set_option maxRecDepth 100000 in
set_option maxHeartbeats 2000000 in
theorem sheetOf_any (x0 x1 x3 x4 : Int) (a : Option Addr) (n c : Nat) (x5 : Bool) (zs : List Int) (w : World) (hr : Reads (.sl .int) w [.slice a n c] zs) (hn : n ≤ 1048576) (hz : ∀ i, i < n → -1 ≤ at0 zs i ∧ at0 zs i ≤ 1114111) :
    Calls Try.prog 23 #[.agg #[.int .i64 x0, .int .i64 x1, .slice a n c, .int .i64 x3, .int .i64 x4, .bool x5]] w fun e w' => ∃ p g, e = .returned (.pointer (some ⟨p, 0, none⟩)) ∧ SheetAt w' w.heap.size p g n x0 x1 x3 x4 x5 (up (-32) zs) ∧ Below w.heap.size w w' := by
  obtain ⟨hl, hrd, hc, hm⟩ := reads_ints hr
  obtain ⟨W1, hW1⟩ : ∃ W, W = (w.alloc (.cells #[.int .i64 x0, .int .i64 x1, .slice a n c, .int .i64 x3, .int .i64 x4, .bool x5] 26)).alloc (.cells #[.int .i64 x0, .int .i64 x1, .slice a n c, .int .i64 x3, .int .i64 x4, .bool x5] 48) := ⟨_, rfl⟩
  have bW1 : Below w.heap.size w W1 := by rw [hW1]; exact ((Below.refl _ _).alloc (Nat.le_refl _) _).alloc (by simp) _
  have hbox : W1.heap[w.heap.size + 1]? = some (.cells #[.int .i64 x0, .int .i64 x1, .slice a n c, .int .i64 x3, .int .i64 x4, .bool x5] 48 (0, 0)) := by
    rw [hW1]
    have := heap_alloc_new (w.alloc (.cells #[.int .i64 x0, .int .i64 x1, .slice a n c, .int .i64 x3, .int .i64 x4, .bool x5] 26)) (.cells #[.int .i64 x0, .int .i64 x1, .slice a n c, .int .i64 x3, .int .i64 x4, .bool x5] 48)
    simpa using this
  have zW1 : W1.heap.size = w.heap.size + 1 + 1 := by rw [hW1]; simp
  have qr : Hid (∀ w', Below w.heap.size w w' → Calls Try.prog 36 #[.slice a n c, .int .i64 (-32)] w' fun e w'' => ∃ g, e = .returned (.slice (some ⟨g, 0, none⟩) n n) ∧ w'.heap.size ≤ g ∧ w''.ownsRow w.heap.size 3 1 (.slice (some ⟨g, 0, none⟩) n n) n ((up (-32) zs).map (Value.int .i64)) ∧ Below w'.heap.size w' w'') := fun w' h' => raised_ex a n c w.heap.size zs (-32) w' h'.size hl (hrd.later h') hn (fun i hi => by have := hz i hi; omega) (by omega) (by omega)
  have HL : Hid (zs.length = n) := hl
  have HW : Hid (W1 = _) := hW1
  have HB : Hid (W1.heap[w.heap.size + 1]? = _) := hbox
  clear hr hrd hl hz hW1 hbox
  go_enter Try.func23, Try.ntmps23
  go_wp2_with fail
  rw [← HW.out]
  refine (qr.out _ bW1).mono ?_
  rintro e w2 ⟨g, rfl, hg, ho, hb2⟩
  have b2 := bW1.trans (hb2.mono bW1.size)
  have z2 := hb2.size
  rw [zW1] at z2 hg
  have i2 : w2.heap[w.heap.size + 1]? = _ := (hb2.block _ (by rw [zW1]; omega)).trans HB.out
  have y2 : w2.cell? ⟨w.heap.size + 1, 2, none⟩ = some (.slice a n c) := box_cell i2 rfl
  have f2 : w2.frozen? ⟨w.heap.size + 1, 2, none⟩ = false := box_frozen i2
  have hs := box_set (j := 2) (.slice (some ⟨g, 0, none⟩) n n) i2
  have ho' := own_off ho (w.heap.size + 1) 2 (.slice (some ⟨g, 0, none⟩) n n) (by omega)
  have HH : Hid (_ ∧ _ ∧ _) := ⟨hs, ho', (b2.setCell (p := ⟨w.heap.size + 1, 2, none⟩) (by simp) (.slice (some ⟨g, 0, none⟩) n n))⟩
  clear i2 ho hs ho' hb2 b2
  go_wp2
  go_ret
  exact ⟨_, _, rfl, ⟨by simpa using HH.out.1, HH.out.2.1, by rw [up_len]; exact HL.out, by omega, by omega⟩, HH.out.2.2⟩

/-- A coordinate that is brought into its bounds. -/
def clampG (x n : Int) : Int := min (max x 0) (n - 1)

set_option maxRecDepth 100000 in
set_option maxHeartbeats 2000000 in
theorem moveTo_any (p g n B : Nat) (W H X Y x y : Int) (wr : Bool) (zs : List Int) (w : World) (hs : SheetAt w B p g n W H X Y wr zs) (hW : 1 ≤ W) (hW2 : W ≤ 1000) (hH : 1 ≤ H) (hH2 : H ≤ 1000) :
    Calls Try.prog 47 #[.pointer (some ⟨p, 0, none⟩), .int .i64 x, .int .i64 y] w fun e w' => e = .returned (.tuple #[]) ∧ SheetAt w' B p g n W H (clampG x W) (clampG y H) false zs ∧ Touch w w' [p] := by
  obtain ⟨X', hX', hx⟩ : ∃ X', clampG x W = X' ∧ ((x < 0 ∧ 0 ≤ W - 1 ∧ X' = 0) ∨ (¬ x < 0 ∧ x ≤ W - 1 ∧ X' = x) ∨ (¬ x < 0 ∧ ¬ x ≤ W - 1 ∧ X' = W - 1)) := ⟨_, rfl, by unfold clampG; omega⟩
  obtain ⟨Y', hY', hy⟩ : ∃ Y', clampG y H = Y' ∧ ((y < 0 ∧ 0 ≤ H - 1 ∧ Y' = 0) ∨ (¬ y < 0 ∧ y ≤ H - 1 ∧ Y' = y) ∨ (¬ y < 0 ∧ ¬ y ≤ H - 1 ∧ Y' = H - 1)) := ⟨_, rfl, by unfold clampG; omega⟩
  have HX : Hid (clampG x W = X' ∧ clampG y H = Y') := ⟨hX', hY'⟩
  clear hX' hY'
  have y0 : w.cell? ⟨p, 0, none⟩ = some (.int .i64 W) := box_cell hs.box rfl
  have y1 : w.cell? ⟨p, 1, none⟩ = some (.int .i64 H) := box_cell hs.box rfl
  have y3 : w.cell? ⟨p, 3, none⟩ = some (.int .i64 X) := box_cell hs.box rfl
  have y4 : w.cell? ⟨p, 4, none⟩ = some (.int .i64 Y) := box_cell hs.box rfl
  have y5 : w.cell? ⟨p, 5, none⟩ = some (.bool wr) := box_cell hs.box rfl
  have f3 : w.frozen? ⟨p, 3, none⟩ = false := box_frozen hs.box
  have f4 : w.frozen? ⟨p, 4, none⟩ = false := box_frozen hs.box
  have f5 : w.frozen? ⟨p, 5, none⟩ = false := box_frozen hs.box
  have wW : IntKind.i64.wrap (W - 1) = W - 1 := wrap_i64_in _ (by omega) (by omega)
  have wH : IntKind.i64.wrap (H - 1) = H - 1 := wrap_i64_in _ (by omega) (by omega)
  have h1 := box_set (j := 3) (.int .i64 X') hs.box
  have h2 := box_set (j := 4) (.int .i64 Y') h1
  have h3 := box_set (j := 5) (.bool false) h2
  have o1 := own_off hs.row p 3 (.int .i64 X') hs.ne
  have o2 := own_off o1 p 4 (.int .i64 Y') hs.ne
  have o3 := own_off o2 p 5 (.bool false) hs.ne
  have HH : Hid (_ ∧ _ ∧ _) := ⟨h3, o3, ((Touch.set w p 3 (.int .i64 X') (List.mem_singleton.2 rfl)).trans (Touch.set _ p 4 (.int .i64 Y') (List.mem_singleton.2 rfl))).trans (Touch.set _ p 5 (.bool false) (List.mem_singleton.2 rfl))⟩
  have HS : Hid (zs.length = n ∧ B ≤ p ∧ p ≠ g) := ⟨hs.len, hs.lo, hs.ne⟩
  clear h1 h2 h3 o1 o2 o3 hs
  rcases hx with ⟨hx1, hx2, rfl⟩ | ⟨hx1, hx2, rfl⟩ | ⟨hx1, hx2, rfl⟩
  all_goals
    rcases hy with ⟨hy1, hy2, rfl⟩ | ⟨hy1, hy2, rfl⟩ | ⟨hy1, hy2, rfl⟩
    all_goals
      go_enter Try.func47, Try.ntmps47
      go_wp2
      refine bodyPost_end (v := .tuple #[]) (by simp [results, Try.results47, go_sem]) rfl ?_
      refine ⟨rfl, ?_, HH.out.2.2⟩
      rw [HX.out.1, HX.out.2]
      exact ⟨by simpa using HH.out.1, HH.out.2.1, HS.out.1, HS.out.2.1, HS.out.2.2⟩

end Go.Proofs.Ytmiggbdlhajkiaa
