/-
  The law FnExactVtSize over the contracts of its two functions.
-/
import Derived.Test.YtojalheohpkdoaaDoorLVtSize
import Derived.Test.YtojalheohpkdoaaDoorVtZ
import Derived.Test.YtojalheohpkdoaaDoorWVtOk
namespace Go.Proofs.YtojalheohpkdoaaDoor
open Go.RowKit
set_option linter.unusedVariables false

theorem specVtsize_ok (c : List Value) (d : shVt.D) (x y : Int) (w : World) (h : Reads shVt w c d) (hs : shVt.sz d ≤ 1048576) :
    Calls Tryd.prog 11 #[.agg c.toArray, .int .i64 x, .int .i64 y] w fun e w' => ∃ o F, e = .returned (.tuple #[.agg o.toArray, .bool (sidesB x y && vtB d)]) ∧ Own shVt w' w.heap.size o (vtZ d x y) F ∧ F.Nodup ∧ Below w.heap.size w w' := by
  obtain ⟨a2, n2, c2, a7, n7, c7, a8, n8, c8, rfl, h0, h2, h3⟩ := open_Vt h
  obtain ⟨_, _, _, hc, hg⟩ := open_Grid h0
  simp only [List.cons.injEq, Value.slice.injEq, true_and, and_true] at hc
  obtain ⟨rfl, rfl, rfl⟩ := hc
  exact specVtSize_any _ _ _ _ _ _ _ a2 a7 a8 n2 c2 n7 c7 n8 c8 d.1.2.2.1 d.2.2.1 d.2.2.2.1 x y w hg h2 h3 (part_len h3 hs)

theorem implVtsize_ok (c : List Value) (d : shVt.D) (x y : Int) (w : World) (hT : Tabs w) (h : Reads shVt w c d) (hs : shVt.sz d ≤ 1048576) :
    Calls Tryd.prog 12 #[.agg c.toArray, .int .i64 x, .int .i64 y] w fun e w' => ∃ o F, e = .returned (.tuple #[.agg o.toArray, .bool (sidesB x y && vtB d)]) ∧ Own shVt w' w.heap.size o (vtZ d x y) F ∧ F.Nodup ∧ Below w.heap.size w w' := by
  obtain ⟨a2, n2, c2, a7, n7, c7, a8, n8, c8, rfl, h0, h2, h3⟩ := open_Vt h
  obtain ⟨_, _, _, hc, hg⟩ := open_Grid h0
  simp only [List.cons.injEq, Value.slice.injEq, true_and, and_true] at hc
  obtain ⟨rfl, rfl, rfl⟩ := hc
  exact implVtSize_any _ _ _ _ _ _ _ a2 a7 a8 n2 c2 n7 c7 n8 c8 d.1.2.2.1 d.2.2.1 d.2.2.2.1 x y w hT hg h2 h3 (part_len h3 hs)

theorem sz_vtZ (d : shVt.D) (x y : Int) : shVt.sz (vtZ d x y) ≤ 1048576 := by
  have key : ∀ be : Int, shVt.sz ((newG x y, (0 : Int), [], [], be, ()) : VtD) ≤ 1048576 := by
    intro be
    have h1 := sz_Vt ((newG x y, (0 : Int), [], [], be, ()) : VtD)
    have h2 : Sh.sz (.sl .int) ([] : List Int) = 0 := rfl
    have h3 : Sh.sz (.sl .u8) ([] : List Int) = 0 := rfl
    have h4 := sz_Grid (newG x y)
    have h5 : Sh.sz (.sl .int) (newG x y).2.2.1 = List.length (α := Int) (newG x y).2.2.1 := sz_ints _
    have h6 : List.length (α := Int) (newG x y).2.2.1 ≤ 40000 := by
      cases hs : sidesB x y with
      | false => rw [newG_no hs]; exact Nat.zero_le _
      | true =>
        rw [newG_yes hs]
        obtain ⟨h1, h2, h3, h4, h5⟩ := sidesB_iff.1 hs
        have := mul_bd h1 h2 h3 h4
        show (List.replicate (x * y).toNat (32 : Int)).length ≤ 40000
        rw [List.length_replicate]; omega
    rw [h1]
    show Sh.sz shGrid (newG x y) + Sh.sz (.sl .int) ([] : List Int) + Sh.sz (.sl .u8) ([] : List Int) ≤ 1048576
    have h7 : Sh.sz shGrid (newG x y) = shGrid.sz (newG x y) := rfl
    omega
  cases h : (sidesB x y && vtB d) with
  | true => rw [vtZ_yes h]; exact key _
  | false => rw [vtZ_no h]; exact Nat.le_trans (Nat.le_of_eq (show shVt.sz zeroT = 0 from rfl)) (Nat.zero_le _)

theorem vtSize_law (cs : List Value) (d : shVt.D) (x y : Int) (w : World) (hT : Tabs w) (hr : Reads shVt w cs d) :
    Calls Tryd.prog 4 #[.agg cs.toArray, .int .i64 x, .int .i64 y] w fun e w' => e = .returned (.bool true) ∧ Below w.heap.size w w' :=
  vtSize_over cs d x y (vtZ d x y) (sidesB x y && vtB d) w hr (sz_vtZ d x y) (cntT _ (sz_vtZ d x y)) (cntT d)
    (fun w' c G h hs hb => (specVtsize_ok c d x y w' h.reads hs).mono fun e w'' ⟨o, F, he, ho, _, hb⟩ => ⟨o, he, ho.reads, hb⟩)
    (fun w' c G h hs hb => (implVtsize_ok c d x y w' (hT.later hb) h.reads hs).mono fun e w'' ⟨o, F, he, ho, hn, hb⟩ => ⟨o, F, he, ho, hn, hb⟩)

end Go.Proofs.YtojalheohpkdoaaDoor
