/-
  The law FnExactVtOk over the contracts of its two functions.
-/
import Derived.Test.YtojalheohpkdoaaDoorLVtOk
import Derived.Test.YtojalheohpkdoaaDoorVtI
import Derived.Test.YtojalheohpkdoaaDoorVtS
import Derived.Test.YtojalheohpkdoaaDoorCntT
import Derived.Test.YtojalheohpkdoaaDoorTabs
namespace Go.Proofs.YtojalheohpkdoaaDoor
open Go.RowKit
set_option linter.unusedVariables false

theorem part_len {a : Option Addr} {n c : Nat} {w : World} {d : shVt.D} (h : Reads (.sl .u8) w [.slice a n c] d.2.2.2.1) (hs : shVt.sz d ≤ 1048576) : n ≤ 2097152 := by
  have h1 := sz_Vt d
  have h2 := (reads_bytes h).1
  have h3 : List.length (α := Int) d.2.2.2.1 ≤ Sh.sz (.sl .u8) d.2.2.2.1 := Nat.le_add_right _ _
  omega

theorem specVtok_ok (c : List Value) (d : shVt.D) (w : World) (h : Reads shVt w c d) (hs : shVt.sz d ≤ 1048576) :
    Calls Tryd.prog 7 #[.agg c.toArray] w fun e w' => e = .returned (.bool (vtB d)) ∧ Below w.heap.size w w' := by
  obtain ⟨a2, n2, c2, a7, n7, c7, a8, n8, c8, rfl, h0, h2, h3⟩ := open_Vt h
  obtain ⟨_, _, _, hc, hg⟩ := open_Grid h0
  simp only [List.cons.injEq, Value.slice.injEq, true_and, and_true] at hc
  obtain ⟨rfl, rfl, rfl⟩ := hc
  exact specVtok_any _ _ _ _ _ _ _ a2 a7 a8 n2 c2 n7 c7 n8 c8 d.1.2.2.1 d.2.2.1 d.2.2.2.1 w hg h2 h3 (part_len h3 hs)

theorem implVtok_ok (c : List Value) (d : shVt.D) (w : World) (hT : Tabs w) (h : Reads shVt w c d) (hs : shVt.sz d ≤ 1048576) :
    Calls Tryd.prog 9 #[.agg c.toArray] w fun e w' => e = .returned (.bool (vtB d)) ∧ Below w.heap.size w w' := by
  obtain ⟨a2, n2, c2, a7, n7, c7, a8, n8, c8, rfl, h0, h2, h3⟩ := open_Vt h
  obtain ⟨_, _, _, hc, hg⟩ := open_Grid h0
  simp only [List.cons.injEq, Value.slice.injEq, true_and, and_true] at hc
  obtain ⟨rfl, rfl, rfl⟩ := hc
  exact vtok_any _ _ _ _ _ _ _ a2 a7 a8 n2 c2 n7 c7 n8 c8 d.1.2.2.1 d.2.2.1 d.2.2.2.1 w hT hg h2 h3 (part_len h3 hs)

theorem vtOk_law (cs : List Value) (d : shVt.D) (w : World) (hT : Tabs w) (hr : Reads shVt w cs d) :
    Calls Tryd.prog 3 #[.agg cs.toArray] w fun e w' => e = .returned (.bool true) ∧ Below w.heap.size w w' :=
  vtOk_over cs d (vtB d) w hr (cntT d) (fun w' c G h hs hb => specVtok_ok c d w' h.reads hs) (fun w' c G h hs hb => implVtok_ok c d w' (hT.later hb) h.reads hs)

end Go.Proofs.YtojalheohpkdoaaDoor
