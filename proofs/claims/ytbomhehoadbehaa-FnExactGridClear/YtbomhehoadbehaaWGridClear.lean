/-
  GridClear of both sides; the law FnExactGridClear over the contracts of its two functions.
-/
import Derived.Test.YtbomhehoadbehaaGrFClear
import Derived.Test.YtbomhehoadbehaaGrSClear
import Derived.Test.YtbomhehoadbehaaGrQ
import Derived.Test.YtbomhehoadbehaaGrY
import Derived.Test.YtbomhehoadbehaaLGridClear
namespace Go.Proofs.Ytbomhehoadbehaa
open Go.RowKit
set_option linter.unusedVariables false

def clrD (d : GrD) (x y : Int) : GrD := ansG d (d.1, d.2.1, clrM x y d.2.2.1, d.2.2.2.1, d.2.2.2.2.1, d.2.2.2.2.2.1, ())

theorem clrM_in {x y : Int} {zs : List Int} (hz : ∀ i, i < zs.length → -1 ≤ at0 zs i ∧ at0 zs i ≤ 1114111) : ∀ i, i < zs.length → -1 ≤ at0 (clrM x y zs) i ∧ at0 (clrM x y zs) i ≤ 1114111 := by
  intro i hi
  rw [clrM_at hi]
  split
  · omega
  · exact hz i hi

theorem implClear_any (x0 x1 x3 x4 : Int) (a : Option Addr) (n c : Nat) (x5 : Bool) (zs : List Int) (x y : Int) (w : World) (hr : Reads (.sl .int) w [.slice a n c] zs) :
    Calls Try.prog 14 #[.agg #[.int .i64 x0, .int .i64 x1, .slice a n c, .int .i64 x3, .int .i64 x4, .bool x5], .int .i64 x, .int .i64 y] w fun e w' => ∃ o F, e = .returned (.agg o.toArray) ∧ Own shGrid w' w.heap.size o (clrD (x0, x1, zs, x3, x4, x5, ()) x y) F ∧ F.Nodup ∧ Below w.heap.size w w' := by
  have hl := (reads_ints hr).1
  refine implGridClear_over x0 x1 x3 x4 a n c x5 zs x y x3 x4 x5 (clrM x y zs) (clrD (x0, x1, zs, x3, x4, x5, ()) x y) rfl w hr ?_ ?_
  · intro hg
    obtain ⟨W, H, rfl, rfl, g1, g2, g3, g4, g5, hlen, hcl, _⟩ := gok_parts hg
    refine ⟨by rw [clrM_len]; exact hl, fun i hi => clrM_in (fun j hj => cells_in hcl (Nat.lt_of_lt_of_eq hj hlen)) i (by rw [hl]; exact hi)⟩
  · intro hg w' B p g hs
    obtain ⟨W, H, rfl, rfl, g1, g2, g3, g4, g5, hlen, hcl, _⟩ := gok_parts hg
    have hp := paired_of (by omega) hlen hcl
    have hpos : 0 < zs.length := by rw [hlen]; exact Nat.mul_pos (by omega) (by omega)
    rw [← clr_same hp, up_clr hpos]
    refine blank_any p g n B W H x3 x4 x y x5 (up (-32) zs) w' hs (by omega) (by omega) ?_
    rw [up_at hpos]
    intro h
    have := ((hp 0 hpos).2 (by omega)).1
    omega

theorem implClear_ok (c : List Value) (d : shGrid.D) (x y : Int) (w : World) (h : Reads shGrid w c d) :
    Calls Try.prog 14 #[.agg c.toArray, .int .i64 x, .int .i64 y] w fun e w' => ∃ o F, e = .returned (.agg o.toArray) ∧ Own shGrid w' w.heap.size o (clrD d x y) F ∧ F.Nodup ∧ Below w.heap.size w w' := by
  obtain ⟨a, n, cc, rfl, hr⟩ := open_Grid h
  exact implClear_any _ _ _ _ a n cc _ _ x y w hr

theorem specClear_ok (c : List Value) (d : shGrid.D) (x y : Int) (w : World) (h : Reads shGrid w c d) :
    Calls Try.prog 13 #[.agg c.toArray, .int .i64 x, .int .i64 y] w fun e w' => ∃ o F, e = .returned (.agg o.toArray) ∧ Own shGrid w' w.heap.size o (clrD d x y) F ∧ F.Nodup ∧ Below w.heap.size w w' := by
  obtain ⟨a, n, cc, rfl, hr⟩ := open_Grid h
  obtain ⟨x0, x1, zs, x3, x4, x5, _⟩ := d
  exact specGridClear_any x0 x1 x3 x4 a n cc x5 zs x y (clrD (x0, x1, zs, x3, x4, x5, ()) x y) rfl w hr

theorem clrD_len (d : GrD) (x y : Int) : (clrD d x y).2.2.1.length ≤ 8000 := ans_len' fun hg => clrM_len

theorem gridClear_law (cs : List Value) (d : shGrid.D) (x y : Int) (w : World) (hr : Reads shGrid w cs d) :
    Calls Try.prog 4 #[.agg cs.toArray, .int .i64 x, .int .i64 y] w fun e w' => e = .returned (.bool true) ∧ Below w.heap.size w w' :=
  have hs : shGrid.sz (clrD d x y) ≤ 1048576 := sz_ans' (clrD_len d x y)
  gridClear_over cs d x y (clrD d x y) w hr hs (cntG _ hs) (cntG d)
    (fun w' c G h _ => (specClear_ok c d x y w' h.reads).mono fun e w'' ⟨o, F, he, ho, _, hb⟩ => ⟨o, he, ho.reads, hb⟩)
    (fun w' c G h _ => (implClear_ok c d x y w' h.reads).mono fun e w'' ⟨o, F, he, ho, hn, hb⟩ => ⟨o, F, he, ho, hn, hb⟩)

end Go.Proofs.Ytbomhehoadbehaa
