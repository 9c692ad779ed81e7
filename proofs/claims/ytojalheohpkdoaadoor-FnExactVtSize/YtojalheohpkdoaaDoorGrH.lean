/-
  The program's sheets: sheetOf, moveTo, grid.
-/
import Derived.Test.YtojalheohpkdoaaDoorGrR
import Derived.Test.YtojalheohpkdoaaDoorOwnM
namespace Go.Proofs.YtojalheohpkdoaaDoor
open Go.RowKit
set_option linter.unusedVariables false

/-- A sheet in block p, its cells in block g. -/
structure SheetAt (w : World) (B p g n : Nat) (W H X Y : Int) (wr : Bool) (zs : List Int) : Prop where
  box : w.heap[p]? = some (.cells #[.int .i64 W, .int .i64 H, .slice (some ⟨g, 0, none⟩) n n, .int .i64 X, .int .i64 Y, .bool wr] 70 (0, 0))
  row : w.ownsRow B 3 1 (.slice (some ⟨g, 0, none⟩) n n) n (zs.map (Value.int .i64))
  len : zs.length = n
  lo : B ≤ p
  ne : p ≠ g

theorem box_lt {w : World} {b : Nat} {o : Obj} (h : w.heap[b]? = some o) : b < w.heap.size := by
  rcases Nat.lt_or_ge b w.heap.size with h' | h'
  · exact h'
  · rw [Array.getElem?_eq_none h'] at h; cases h

theorem SheetAt.later {w w' : World} {B p g n : Nat} {W H X Y : Int} {wr : Bool} {zs : List Int} (h : SheetAt w B p g n W H X Y wr zs) (hb : Below w.heap.size w w') : SheetAt w' B p g n W H X Y wr zs :=
  ⟨(hb.block _ (box_lt h.box)).trans h.box, own_later h.row hb, h.len, h.lo, h.ne⟩

theorem own_off {w : World} {B n g c : Nat} {e : TypeId} {size : Nat} {m : Nat} {xs : List Value} (h : w.ownsRow B e size (.slice (some ⟨g, 0, none⟩) m c) n xs) (b j : Nat) (u : Value) (hb : b ≠ g) : (w.setCell ⟨b, j, none⟩ u).ownsRow B e size (.slice (some ⟨g, 0, none⟩) m c) n xs := by
  refine ⟨h.1, ?_⟩
  rcases h.2 with h1 | ⟨g', cap, cur, hv, hg, hh, r⟩
  · exact .inl h1
  · have hv' := hv
    simp only [Value.slice.injEq, Option.some.injEq, Addr.mk.injEq, and_true] at hv
    exact .inr ⟨g', cap, cur, hv', hg, (box_other u (by omega)).trans hh, r⟩

theorem own_low {w : World} {B B' n g c : Nat} {e : TypeId} {size : Nat} {m : Nat} {xs : List Value} (h : w.ownsRow B e size (.slice (some ⟨g, 0, none⟩) m c) n xs) (hB : B' ≤ B) : w.ownsRow B' e size (.slice (some ⟨g, 0, none⟩) m c) n xs := by
  refine ⟨h.1, ?_⟩
  rcases h.2 with h1 | ⟨g', cap, cur, hv, hg, r⟩
  · exact .inl h1
  · exact .inr ⟨g', cap, cur, hv, Nat.le_trans hB hg, r⟩

/-- raised, its new block named by a letter. -/
theorem raised_ex (a : Option Addr) (n cap B : Nat) (zs : List Int) (k : Int) (w : World) (hB : B ≤ w.heap.size) (hl : zs.length = n) (hr : RdI w a zs) (hn : n ≤ 1048576) (hz : ∀ i, i < n → -1000000000 ≤ at0 zs i ∧ at0 zs i ≤ 1000000000) (hk0 : -1000 ≤ k) (hk1 : k ≤ 1000) :
    Calls Tryd.prog 57 #[.slice a n cap, .int .i64 k] w fun e w' => ∃ g, e = .returned (.slice (some ⟨g, 0, none⟩) n n) ∧ w.heap.size ≤ g ∧
      w'.ownsRow B 3 1 (.slice (some ⟨g, 0, none⟩) n n) n ((up k zs).map (Value.int .i64)) ∧ Below w.heap.size w w' := by
  refine (raised_any a n cap zs k w hl hr hn hz hk0 hk1).mono ?_
  rintro e w' ⟨rfl, ho, hb⟩
  exact ⟨_, rfl, Nat.le_refl _, own_low ho hB, hb⟩

/-- A coordinate that is brought into its bounds. -/
def clampG (x n : Int) : Int := min (max x 0) (n - 1)

end Go.Proofs.YtojalheohpkdoaaDoor
