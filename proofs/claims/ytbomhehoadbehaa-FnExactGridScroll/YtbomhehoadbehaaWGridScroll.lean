/-
  GridScroll of both sides; the law FnExactGridScroll over the contracts of its two functions.
-/
import Derived.Test.YtbomhehoadbehaaGrFScroll
import Derived.Test.YtbomhehoadbehaaGrSScroll
import Derived.Test.YtbomhehoadbehaaGrY
import Derived.Test.YtbomhehoadbehaaLGridScroll
namespace Go.Proofs.Ytbomhehoadbehaa
open Go.RowKit
set_option linter.unusedVariables false

def scrD (d : GrD) : GrD := ansG d (d.1, d.2.1, scr 32 d.1.toNat d.2.2.1, d.2.2.2.1, d.2.2.2.2.1, d.2.2.2.2.2.1, ())

theorem up_scr (W : Nat) (zs : List Int) : up (-32) (scr 32 W zs) = scr 0 W (up (-32) zs) := by
  unfold up scr
  rw [List.map_append, List.map_drop, List.map_replicate]
  rfl

theorem scr_in {W : Nat} {zs : List Int} (hz : ∀ i, i < zs.length → -1 ≤ at0 zs i ∧ at0 zs i ≤ 1114111) (hW : W ≤ zs.length) : ∀ i, i < zs.length → -1 ≤ at0 (scr 32 W zs) i ∧ at0 (scr 32 W zs) i ≤ 1114111 := by
  intro i hi
  by_cases h : i + W < zs.length
  · rw [scr_at1 h]; exact hz _ h
  · rw [scr_at2 h hi hW]; omega

theorem implScroll_any (x0 x1 x3 x4 : Int) (a : Option Addr) (n c : Nat) (x5 : Bool) (zs : List Int) (w : World) (hr : Reads (.sl .int) w [.slice a n c] zs) :
    Calls Try.prog 9 #[.agg #[.int .i64 x0, .int .i64 x1, .slice a n c, .int .i64 x3, .int .i64 x4, .bool x5]] w fun e w' => ∃ o F, e = .returned (.agg o.toArray) ∧ Own shGrid w' w.heap.size o (scrD (x0, x1, zs, x3, x4, x5, ())) F ∧ F.Nodup ∧ Below w.heap.size w w' := by
  have hl := (reads_ints hr).1
  refine implGridScroll_over x0 x1 x3 x4 a n c x5 zs x3 x4 x5 (scr 32 x0.toNat zs) (scrD (x0, x1, zs, x3, x4, x5, ())) rfl w hr ?_ ?_
  · intro hg
    obtain ⟨W, H, rfl, rfl, g1, g2, g3, g4, g5, hlen, hcl, _⟩ := gok_parts hg
    have hW : W ≤ zs.length := by rw [hlen]; exact Nat.le_mul_of_pos_right _ (by omega)
    rw [Int.toNat_natCast]
    refine ⟨by rw [scr_len hW]; exact hl, fun i hi => scr_in (fun j hj => cells_in hcl (Nat.lt_of_lt_of_eq hj hlen)) hW i (by rw [hl]; exact hi)⟩
  · intro hg w' B p g hs
    obtain ⟨W, H, rfl, rfl, g1, g2, g3, g4, g5, hlen, _⟩ := gok_parts hg
    have hW : W ≤ n := by rw [← hl, hlen]; exact Nat.le_mul_of_pos_right _ (by omega)
    rw [Int.toNat_natCast, up_scr]
    exact scroll_any p g n B W H x3 x4 x5 (up (-32) zs) w' hs g1 hW (by rw [← hl, hlen]; exact g5)

theorem implScroll_ok (c : List Value) (d : shGrid.D) (w : World) (h : Reads shGrid w c d) :
    Calls Try.prog 9 #[.agg c.toArray] w fun e w' => ∃ o F, e = .returned (.agg o.toArray) ∧ Own shGrid w' w.heap.size o (scrD d) F ∧ F.Nodup ∧ Below w.heap.size w w' := by
  obtain ⟨a, n, cc, rfl, hr⟩ := open_Grid h
  exact implScroll_any _ _ _ _ a n cc _ _ w hr

theorem specScroll_ok (c : List Value) (d : shGrid.D) (w : World) (h : Reads shGrid w c d) :
    Calls Try.prog 7 #[.agg c.toArray] w fun e w' => ∃ o F, e = .returned (.agg o.toArray) ∧ Own shGrid w' w.heap.size o (scrD d) F ∧ F.Nodup ∧ Below w.heap.size w w' := by
  obtain ⟨a, n, cc, rfl, hr⟩ := open_Grid h
  obtain ⟨x0, x1, zs, x3, x4, x5, _⟩ := d
  exact specGridScroll_any x0 x1 x3 x4 a n cc x5 zs (scrD (x0, x1, zs, x3, x4, x5, ())) rfl w hr

theorem scrD_len (d : GrD) : (scrD d).2.2.1.length ≤ 8000 := ans_len' fun hg => by
  obtain ⟨x0, x1, zs, x3, x4, x5, _⟩ := d
  obtain ⟨W, H, rfl, rfl, g1, g2, g3, g4, g5, hlen, hcl, _⟩ := gok_parts hg
  show (scr 32 (W : Int).toNat zs).length = zs.length
  rw [Int.toNat_natCast, scr_len (by rw [hlen]; exact Nat.le_mul_of_pos_right _ (by omega))]

theorem gridScroll_law (cs : List Value) (d : shGrid.D) (w : World) (hr : Reads shGrid w cs d) :
    Calls Try.prog 3 #[.agg cs.toArray] w fun e w' => e = .returned (.bool true) ∧ Below w.heap.size w w' :=
  have hs : shGrid.sz (scrD d) ≤ 1048576 := sz_ans' (scrD_len d)
  gridScroll_over cs d (scrD d) w hr hs (cntG _ hs) (cntG d)
    (fun w' c G h _ => (specScroll_ok c d w' h.reads).mono fun e w'' ⟨o, F, he, ho, _, hb⟩ => ⟨o, he, ho.reads, hb⟩)
    (fun w' c G h _ => (implScroll_ok c d w' h.reads).mono fun e w'' ⟨o, F, he, ho, hn, hb⟩ => ⟨o, F, he, ho, hn, hb⟩)

end Go.Proofs.Ytbomhehoadbehaa
