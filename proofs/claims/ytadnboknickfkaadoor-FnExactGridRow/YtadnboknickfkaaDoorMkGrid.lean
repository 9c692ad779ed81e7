/-
  The marks of the type Grid, which has structs among its fields. By program (mkgen2.py).
-/
import Derived.Test.YtadnboknickfkaaDoorTyGrid
import Derived.Test.YtadnboknickfkaaDoorMkB
namespace Go.Proofs.YtadnboknickfkaaDoor
open Go.RowKit
set_option linter.unusedVariables false

theorem openO_Grid {w : World} {B : Nat} {cs : List Value} {d : shGrid.D} {F : List Nat} (h : Own shGrid w B cs d F) :
    ∃ a2 n2 c2 F2, cs = [.int .i64 (d.1), .int .i64 (d.2.1), .slice a2 n2 c2, .int .i64 (d.2.2.2.1), .int .i64 (d.2.2.2.2.1), .bool (d.2.2.2.2.2.1)] ∧ F = F2 ++ ([]) ∧ Own (.sl .int) w B [.slice a2 n2 c2] d.2.2.1 F2 := by
  obtain ⟨_, _, G0, _, rfl, rfl, h0, _, _, G1, _, rfl, rfl, h1, _, _, G2, _, rfl, rfl, h2, _, _, G3, _, rfl, rfl, h3, _, _, G4, _, rfl, rfl, h4, _, _, G5, _, rfl, rfl, h5, hE⟩ := h
  obtain ⟨rfl, rfl⟩ := h0
  obtain ⟨rfl, rfl⟩ := h1
  obtain ⟨rfl, rfl⟩ := h3
  obtain ⟨rfl, rfl⟩ := h4
  obtain ⟨rfl, rfl⟩ := h5
  obtain ⟨rfl, rfl⟩ := hE
  have g2 := Own.reads (s := (.sl .int)) h2
  obtain ⟨a2, c2, e2, _⟩ := g2
  subst e2
  exact ⟨a2, _, c2, G2, rfl, by simp, h2⟩

theorem cntV_Grid (d : shGrid.D) : shGrid.cntV d = Sh.cnt (.sl .int) d.2.2.1 := by
  show 0 + (0 + (Sh.cnt (.sl .int) d.2.2.1 + (0 + (0 + (0 + (0)))))) = _
  omega

end Go.Proofs.YtadnboknickfkaaDoor
