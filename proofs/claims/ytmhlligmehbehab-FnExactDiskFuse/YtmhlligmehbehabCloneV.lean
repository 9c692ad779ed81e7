/-
  bytes.Clone in the words of shapes.
-/
import Derived.Test.YtmhlligmehbehabClone
import Derived.Test.YtmhlligmehbehabVB
namespace Go.Proofs.Ytmhlligmehbehab
open Go.RowKit
set_option linter.unusedVariables false

theorem clone_v (v : Value) (zs : List Int) (w : World) (h : Reads (.sl .u8) w [v] zs) (hn : zs.length ≤ 2097152) :
    Calls Try.prog 75 #[v] w fun e w' => ∃ v' F, e = .returned v' ∧ Own (.sl .u8) w' w.heap.size [v'] zs F ∧ F.Nodup ∧ Below w.heap.size w w' := by
  obtain ⟨a, c, hv, _, _⟩ := reads_val h
  have hv' : v = .slice a zs.length c := hv
  subst hv'
  obtain ⟨_, hrd, _, _⟩ := reads_bytes h
  refine (clone_any a _ c zs w rfl hrd hn).mono ?_
  rintro e w' ⟨v', rfl, ho, hb⟩
  obtain ⟨F, hF, hnd⟩ := own_row rfl hrd.1 ho
  exact ⟨v', F, rfl, hF, hnd, hb⟩

end Go.Proofs.Ytmhlligmehbehab
