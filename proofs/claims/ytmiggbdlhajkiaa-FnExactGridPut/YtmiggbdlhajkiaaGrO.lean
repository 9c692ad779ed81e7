/-
  The model's grid that a call works on: its box and its row; the three calls over it.
-/
import Derived.Test.YtmiggbdlhajkiaaGrSGo
import Derived.Test.YtmiggbdlhajkiaaGrSScroll
import Derived.Test.YtmiggbdlhajkiaaGrSClear
import Derived.Test.YtmiggbdlhajkiaaGrPq
namespace Go.Proofs.Ytmiggbdlhajkiaa
open Go.RowKit
set_option linter.unusedVariables false

structure OutAt (w : World) (B q k n kc : Nat) (W H X Y : Int) (wr : Bool) (zs : List Int) : Prop where
  box : w.heap[q]? = some (.cells #[.int .i64 W, .int .i64 H, .slice (some ⟨k, 0, none⟩) n kc, .int .i64 X, .int .i64 Y, .bool wr] 26 (0, 0))
  row : w.ownsRow B 3 1 (.slice (some ⟨k, 0, none⟩) n kc) n (zs.map (Value.int .i64))
  len : zs.length = n
  lo : B ≤ q
  ne : q ≠ k

theorem OutAt.later {w w' : World} {B q k n kc : Nat} {W H X Y : Int} {wr : Bool} {zs : List Int} (h : OutAt w B q k n kc W H X Y wr zs) (hb : Below w.heap.size w w') : OutAt w' B q k n kc W H X Y wr zs :=
  ⟨(hb.block _ (box_lt h.box)).trans h.box, own_later h.row hb, h.len, h.lo, h.ne⟩

theorem OutAt.reads {w : World} {B q k n kc : Nat} {W H X Y : Int} {wr : Bool} {zs : List Int} (h : OutAt w B q k n kc W H X Y wr zs) : Reads (.sl .int) w [.slice (some ⟨k, 0, none⟩) n kc] zs :=
  (own_ints h.len h.row).reads

/-- What a call answers is laid into the box. -/
theorem OutAt.put {w w' : World} {B q k n kc k' kc' : Nat} {W H X Y X' Y' : Int} {wr wr' : Bool} {zs zs' : List Int} (h : OutAt w B q k n kc W H X Y wr zs) (hb : Below w.heap.size w w') (hr : w'.ownsRow w.heap.size 3 1 (.slice (some ⟨k', 0, none⟩) n kc') n (zs'.map (Value.int .i64))) (hl : zs'.length = n) :
    OutAt (w'.setRow q #[.int .i64 W, .int .i64 H, .slice (some ⟨k', 0, none⟩) n kc', .int .i64 X', .int .i64 Y', .bool wr']) B q k' n kc' W H X' Y' wr' zs' := by
  have hq := box_lt h.box
  have hk := (hr.lt k' rfl).1
  exact ⟨setRow_heap _ _ _ _ _ _ ((hb.block _ hq).trans h.box), own_low (own_offR hr q _ (by omega)) (by have := h.lo; omega), hl, h.lo, by omega⟩

theorem OutAt.setX {w : World} {B q k n kc : Nat} {W H X Y : Int} {wr : Bool} {zs : List Int} (h : OutAt w B q k n kc W H X Y wr zs) (X' : Int) : OutAt (w.setCell ⟨q, 3, none⟩ (.int .i64 X')) B q k n kc W H X' Y wr zs :=
  ⟨by have := box_set (j := 3) (.int .i64 X') h.box; simpa using this, own_off h.row q 3 _ h.ne, h.len, h.lo, h.ne⟩
theorem OutAt.setWr {w : World} {B q k n kc : Nat} {W H X Y : Int} {wr : Bool} {zs : List Int} (h : OutAt w B q k n kc W H X Y wr zs) (v : Bool) : OutAt (w.setCell ⟨q, 5, none⟩ (.bool v)) B q k n kc W H X Y v zs :=
  ⟨by have := box_set (j := 5) (.bool v) h.box; simpa using this, own_off h.row q 5 _ h.ne, h.len, h.lo, h.ne⟩
theorem OutAt.setZ {w : World} {B q k n kc a : Nat} {W H X Y : Int} {wr : Bool} {zs : List Int} (h : OutAt w B q k n kc W H X Y wr zs) (v : Int) : OutAt (w.setCell ⟨k, a, none⟩ (.int .i64 v)) B q k n kc W H X Y wr (zs.set a v) :=
  ⟨(box_other _ h.ne).trans h.box, by have := (h.row.stored a (.int .i64 v)).1; rw [List.map_set]; exact this, by rw [List.length_set]; exact h.len, h.lo, h.ne⟩
theorem OutAt.cell {w : World} {B q k n kc a : Nat} {W H X Y : Int} {wr : Bool} {zs : List Int} (h : OutAt w B q k n kc W H X Y wr zs) (ha : a < n) : ∃ u, w.cell? ⟨k, a, none⟩ = some u := by
  rw [h.row.cellAt a (by omega)]; exact ⟨_, List.getElem?_eq_getElem (by rw [List.length_map, h.len]; exact ha)⟩

theorem gok_sides {x0 x1 x3 x4 : Int} {x5 : Bool} {zs : List Int} (h : gokB (x0, x1, zs, x3, x4, x5, ()) = true) : sidesB x0 x1 = true := by
  cases hs : sidesB x0 x1 with
  | true => rfl
  | false => rw [gok_no1 hs] at h; cases h
theorem gok_cells {W H : Nat} {x3 x4 : Int} {x5 : Bool} {zs : List Int} (h : gokB ((W : Int), (H : Int), zs, x3, x4, x5, ()) = true) : cellsB zs W (W * H) = true := by
  obtain ⟨W', H', e1, e2, _, _, _, _, _, _, hc, _⟩ := gok_parts h
  obtain rfl : W = W' := by exact_mod_cast e1
  obtain rfl : H = H' := by exact_mod_cast e2
  exact hc

theorem put_set1 {a : Nat} {v h : Int} {zs : List Int} (ha : a + 1 ≤ zs.length) : zs.set a v = putZ a 1 v h zs := by
  unfold putZ
  rw [List.set_eq_take_append_cons_drop, if_pos (by omega)]
  rfl
theorem put_set2 {a : Nat} {v h : Int} {zs : List Int} (ha : a + 2 ≤ zs.length) : (zs.set a v).set (a + 1) h = putZ a 2 v h zs := by
  apply List.ext_getElem?
  intro i
  unfold putZ
  have hl : (zs.take a).length = a := by rw [List.length_take]; omega
  rw [List.getElem?_set, List.length_set, List.getElem?_set]
  by_cases h1 : i < a
  · rw [if_neg (by omega), if_neg (by omega), List.getElem?_append_left (by omega), List.getElem?_take_of_lt h1]
  · rw [List.getElem?_append_right (by omega), hl]
    by_cases h2 : i = a
    · subst h2; rw [if_neg (by omega), if_pos rfl, if_pos (by omega), Nat.sub_self]; rfl
    · by_cases h3 : i = a + 1
      · subst h3; rw [if_pos rfl, if_pos (by omega), show a + 1 - a = 1 by omega]; rfl
      · rw [if_neg (by omega), if_neg (by omega), List.getElem?_append_right (by simp; omega), List.getElem?_drop]
        congr 1; simp; omega

/-- GridScroll of the model, at a right grid. -/
theorem scroll_out {W H n k kc : Nat} {X Y : Int} {wr : Bool} {zs : List Int} (w : World) (hg : gokB ((W : Int), (H : Int), zs, X, Y, wr, ()) = true) (hr : Reads (.sl .int) w [.slice (some ⟨k, 0, none⟩) n kc] zs) :
    Calls Try.prog 18 #[.agg #[.int .i64 W, .int .i64 H, .slice (some ⟨k, 0, none⟩) n kc, .int .i64 X, .int .i64 Y, .bool wr]] w fun e w' => ∃ k' kc', e = .returned (.agg #[.int .i64 W, .int .i64 H, .slice (some ⟨k', 0, none⟩) n kc', .int .i64 X, .int .i64 Y, .bool wr]) ∧ w'.ownsRow w.heap.size 3 1 (.slice (some ⟨k', 0, none⟩) n kc') n ((scr 32 W zs).map (Value.int .i64)) ∧ Below w.heap.size w w' := by
  refine (specGridScroll_row W H X Y _ n kc wr zs ((W : Int), (H : Int), scr 32 W zs, X, Y, wr, ()) (by rw [ansG_yes hg, Int.toNat_natCast]) w hr).mono ?_
  rintro e w' ⟨o, F, rfl, ho, _, hb, hra⟩
  obtain ⟨k', kc', hoe, hrow⟩ := hra hg
  exact ⟨k', kc', by rw [hoe], hrow, hb⟩
theorem go_out {W H n k kc : Nat} {X Y : Int} {wr : Bool} {zs : List Int} (x y : Int) (w : World) (hg : gokB ((W : Int), (H : Int), zs, X, Y, wr, ()) = true) (hr : Reads (.sl .int) w [.slice (some ⟨k, 0, none⟩) n kc] zs) :
    Calls Try.prog 19 #[.agg #[.int .i64 W, .int .i64 H, .slice (some ⟨k, 0, none⟩) n kc, .int .i64 X, .int .i64 Y, .bool wr], .int .i64 x, .int .i64 y] w fun e w' => ∃ k' kc', e = .returned (.agg #[.int .i64 W, .int .i64 H, .slice (some ⟨k', 0, none⟩) n kc', .int .i64 (clampG x W), .int .i64 (clampG y H), .bool false]) ∧ w'.ownsRow w.heap.size 3 1 (.slice (some ⟨k', 0, none⟩) n kc') n (zs.map (Value.int .i64)) ∧ Below w.heap.size w w' := by
  refine (specGridGo_row W H X Y _ n kc wr zs x y ((W : Int), (H : Int), zs, clampG x W, clampG y H, false, ()) (by rw [ansG_yes hg]) w hr).mono ?_
  rintro e w' ⟨o, F, rfl, ho, _, hb, hra⟩
  obtain ⟨k', kc', hoe, hrow⟩ := hra hg
  exact ⟨k', kc', by rw [hoe], hrow, hb⟩
theorem clear_out {W H n k kc : Nat} {X Y : Int} {wr : Bool} {zs : List Int} (x y : Int) (w : World) (hg : gokB ((W : Int), (H : Int), zs, X, Y, wr, ()) = true) (hr : Reads (.sl .int) w [.slice (some ⟨k, 0, none⟩) n kc] zs) :
    Calls Try.prog 20 #[.agg #[.int .i64 W, .int .i64 H, .slice (some ⟨k, 0, none⟩) n kc, .int .i64 X, .int .i64 Y, .bool wr], .int .i64 x, .int .i64 y] w fun e w' => ∃ k' kc', e = .returned (.agg #[.int .i64 W, .int .i64 H, .slice (some ⟨k', 0, none⟩) n kc', .int .i64 X, .int .i64 Y, .bool wr]) ∧ w'.ownsRow w.heap.size 3 1 (.slice (some ⟨k', 0, none⟩) n kc') n ((clrM x y zs).map (Value.int .i64)) ∧ Below w.heap.size w w' := by
  refine (specGridClear_row W H X Y _ n kc wr zs x y ((W : Int), (H : Int), clrM x y zs, X, Y, wr, ()) (by rw [ansG_yes hg]) w hr).mono ?_
  rintro e w' ⟨o, F, rfl, ho, _, hb, hra⟩
  obtain ⟨k', kc', hoe, hrow⟩ := hra hg
  exact ⟨k', kc', by rw [hoe], hrow, hb⟩

end Go.Proofs.Ytmiggbdlhajkiaa
