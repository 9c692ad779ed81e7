/-
  DERIVED. GIVEN WITH THE SEED: THE CARDS: each row of YthgbionamelloaaDoorRows.lean that lists a variable, with what it lists TIED to the program's text (the seventh form; the later family's looks); each row that meets fmt, with fmt's text TOLD by the authors' own Lean function (tested against real Go, not proved from fmt's source: count such statements apart). THE CARD IS WHAT COUNTS. Prove the row's statement (the work); the ties are given (YthgbionamelloaaDoorTie.lean); close each card by the builder's one call (the guide's Derived/Test/ToyasCard.lean, 'card_holds'). Laid BY PROGRAM, IN A SANDBOX (cutbox-door.mjs). By AI agents, Wed Nov 11 2026. No macro, syntax, notation, axiom, sorry.
-/
import Derived.Test.YthgbionamelloaaDoorRows
import GoSem.ClaimSeven
namespace Go.Proofs.YthgbionamelloaaDoor
namespace Rows

/-- THE TIED CARD OF 'laws.FnExactEmitStep'. -/
def fnExactEmitStepCard : Claim7 := { stood := { row := fnExactEmitStepRow, standIns := [], harness := (true, "1287c06c105a83a713b514eca056de45b15d015ed42ba9741b1761f7d9acb28f"), looks := false }, kinds := [], alts := [], laidByText := true, laidKinds := [.data, .data, .data], laidTests := true, laidLooks := .later }
def FnExactEmitStepCardSaid : Prop := Claim7.holds Tryd.pinned (.plain (OpenSpec.ofChange fnExactEmitStepSpec)) fnExactEmitStepCard

/-- THE SECOND FORM's CARD OF 'laws.FnExactEmitStep'. -/
def fnExactEmitStepUptoCard : Claim7 := { stood := { row := fnExactEmitStepUptoRow, standIns := [], harness := (true, "1287c06c105a83a713b514eca056de45b15d015ed42ba9741b1761f7d9acb28f"), looks := false }, kinds := [], alts := [], laidByText := true, laidKinds := [.data, .data, .data], laidTests := true, laidLooks := .later }
def FnExactEmitStepUptoCardSaid : Prop := Claim7.holds Tryd.pinned (.plain (OpenSpec.upto fnExactEmitStepSpec)) fnExactEmitStepUptoCard
end Rows
end Go.Proofs.YthgbionamelloaaDoor
