/-
  The law FnExactSameGrid over the contracts of its two functions.
-/
import Derived.Test.YtmiggbdlhajkiaaLSameGrid
import Derived.Test.YtmiggbdlhajkiaaGrE
import Derived.Test.YtmiggbdlhajkiaaCntG
namespace Go.Proofs.Ytmiggbdlhajkiaa
open Go.RowKit
set_option linter.unusedVariables false

theorem specSame_ok (c1 c2 : List Value) (d1 d2 : shGrid.D) (w : World) (h1 : Reads shGrid w c1 d1) (h2 : Reads shGrid w c2 d2) :
    Calls Try.prog 12 #[.agg c1.toArray, .agg c2.toArray] w fun e w' => e = .returned (.bool (sameB d1 d2)) ∧ Below w.heap.size w w' := by
  obtain ⟨a, n, c, rfl, r1⟩ := open_Grid h1
  obtain ⟨b, m, k, rfl, r2⟩ := open_Grid h2
  exact specSame_any _ _ _ _ _ _ _ _ a b n m c k _ _ d1.2.2.1 d2.2.2.1 w r1 r2

theorem implSame_ok (c1 c2 : List Value) (d1 d2 : shGrid.D) (w : World) (h1 : Reads shGrid w c1 d1) (h2 : Reads shGrid w c2 d2) :
    Calls Try.prog 13 #[.agg c1.toArray, .agg c2.toArray] w fun e w' => e = .returned (.bool (sameB d1 d2)) ∧ Below w.heap.size w w' := by
  obtain ⟨a, n, c, rfl, r1⟩ := open_Grid h1
  obtain ⟨b, m, k, rfl, r2⟩ := open_Grid h2
  exact implSame_any _ _ _ _ _ _ _ _ a b n m c k _ _ d1.2.2.1 d2.2.2.1 w r1 r2

theorem sameGrid_law (cs1 cs2 : List Value) (d1 d2 : shGrid.D) (w : World) (h1 : Reads shGrid w cs1 d1) (h2 : Reads shGrid w cs2 d2) :
    Calls Try.prog 4 #[.agg cs1.toArray, .agg cs2.toArray] w fun e w' => e = .returned (.bool true) ∧ Below w.heap.size w w' :=
  sameGrid_over cs1 d1 cs2 d2 (sameB d1 d2) w h1 h2 (cntG d1) (cntG d2)
    (fun w' c G c' G' h h' _ _ => specSame_ok c c' d1 d2 w' h.reads h'.reads)
    (fun w' c G c' G' h h' _ _ => implSame_ok c c' d1 d2 w' h.reads h'.reads)

end Go.Proofs.Ytmiggbdlhajkiaa
