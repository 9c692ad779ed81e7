/-
  GridGo of both sides; the law FnExactGridGo over the contracts of its two functions.
-/
import Derived.Test.YtpceaabbcogioaaGrFGo
import Derived.Test.YtpceaabbcogioaaGrSGo
import Derived.Test.YtpceaabbcogioaaCntG
import Derived.Test.YtpceaabbcogioaaLGridGo
namespace Go.Proofs.Ytpceaabbcogioaa
open Go.RowKit
set_option linter.unusedVariables false

def goD (d : GrD) (x y : Int) : GrD := ansG d (d.1, d.2.1, d.2.2.1, clampG x d.1, clampG y d.2.1, false, ())

theorem ans_len {d N : GrD} (h : gokB d = true → N.2.2.1.length = d.2.2.1.length) : (ansG d N).2.2.1.length ≤ 8000 := by
  cases hg : gokB d with
  | false => rw [ansG_no hg]; exact Nat.zero_le _
  | true =>
    rw [ansG_yes hg, h hg]
    obtain ⟨x0, x1, zs, x3, x4, x5, _⟩ := d
    obtain ⟨W, H, _, _, _, _, _, _, g5, hlen, _⟩ := gok_parts hg
    show zs.length ≤ 8000
    omega

theorem sz_ans {D : shGrid.D} (h : List.length (α := Int) D.2.2.1 ≤ 8000) : shGrid.sz D ≤ 1048576 := by
  have h3 := sz_Grid D
  have h4 : Sh.sz (.sl .int) D.2.2.1 = List.length (α := Int) D.2.2.1 := sz_ints _
  omega

theorem implGo_ok (c : List Value) (d : shGrid.D) (x y : Int) (w : World) (h : Reads shGrid w c d) :
    Calls Try.prog 20 #[.agg c.toArray, .int .i64 x, .int .i64 y] w fun e w' => ∃ o F, e = .returned (.agg o.toArray) ∧ Own shGrid w' w.heap.size o (goD d x y) F ∧ F.Nodup ∧ Below w.heap.size w w' := by
  obtain ⟨a, n, cc, rfl, hr⟩ := open_Grid h
  obtain ⟨x0, x1, zs, x3, x4, x5, _⟩ := d
  refine implGridGo_over x0 x1 x3 x4 a n cc x5 zs x y (clampG x x0) (clampG y x1) false zs (goD (x0, x1, zs, x3, x4, x5, ()) x y) rfl w hr ?_ ?_
  · intro hg
    obtain ⟨W, H, _, _, _, _, _, _, g5, hlen, hcl, _⟩ := gok_parts hg
    have hl : zs.length = n := (reads_ints hr).1
    exact ⟨hl, fun i hi => cells_in hcl (Nat.lt_of_lt_of_eq hi (hl.symm.trans hlen))⟩
  · intro hg w' B p g hs
    obtain ⟨W, H, rfl, rfl, g1, g2, g3, g4, _⟩ := gok_parts hg
    refine (moveTo_any p g n B W H x3 x4 x y x5 (up (-32) zs) w' hs (by omega) (by omega) (by omega) (by omega)).mono ?_
    rintro e w'' ⟨he, hsh, ht⟩
    exact ⟨he, hsh, ht.mono fun z hz => by simp at hz; simp [hz]⟩

theorem specGo_ok (c : List Value) (d : shGrid.D) (x y : Int) (w : World) (h : Reads shGrid w c d) :
    Calls Try.prog 19 #[.agg c.toArray, .int .i64 x, .int .i64 y] w fun e w' => ∃ o F, e = .returned (.agg o.toArray) ∧ Own shGrid w' w.heap.size o (goD d x y) F ∧ F.Nodup ∧ Below w.heap.size w w' := by
  obtain ⟨a, n, cc, rfl, hr⟩ := open_Grid h
  obtain ⟨x0, x1, zs, x3, x4, x5, _⟩ := d
  exact specGridGo_any x0 x1 x3 x4 a n cc x5 zs x y (goD (x0, x1, zs, x3, x4, x5, ()) x y) rfl w hr

theorem gridGo_law (cs : List Value) (d : shGrid.D) (x y : Int) (w : World) (hr : Reads shGrid w cs d) :
    Calls Try.prog 6 #[.agg cs.toArray, .int .i64 x, .int .i64 y] w fun e w' => e = .returned (.bool true) ∧ Below w.heap.size w w' :=
  have hs : shGrid.sz (goD d x y) ≤ 1048576 := sz_ans (ans_len fun _ => rfl)
  gridGo_over cs d x y (goD d x y) w hr hs (cntG _ hs) (cntG d)
    (fun w' c G h _ => (specGo_ok c d x y w' h.reads).mono fun e w'' ⟨o, F, he, ho, _, hb⟩ => ⟨o, he, ho.reads, hb⟩)
    (fun w' c G h _ => (implGo_ok c d x y w' h.reads).mono fun e w'' ⟨o, F, he, ho, hn, hb⟩ => ⟨o, F, he, ho, hn, hb⟩)

end Go.Proofs.Ytpceaabbcogioaa
