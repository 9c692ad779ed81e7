/-
  DERIVED. GIVEN WITH THE SEED: THE CARDS: each row of YtcchjcllkfaadaaDoorRows.lean that lists a variable, with what it lists TIED to the program's text (the seventh form; the later family's looks); each row that meets fmt, with fmt's text TOLD by the authors' own Lean function (tested against real Go, not proved from fmt's source: count such statements apart). THE CARD IS WHAT COUNTS. Prove the row's statement (the work); the ties are given (YtcchjcllkfaadaaDoorTie.lean); close each card by the builder's one call (the guide's Derived/Test/ToyasCard.lean, 'card_holds'). Laid BY PROGRAM, IN A SANDBOX (cutbox-door.mjs). By AI agents, Wed Nov 11 2026. No macro, syntax, notation, axiom, sorry.
-/
import Derived.Test.YtcchjcllkfaadaaDoorRows
import GoSem.ClaimSeven
namespace Go.Proofs.YtcchjcllkfaadaaDoor
namespace Rows

/-- THE TIED CARD OF 'laws.FnExactEmitGoto'. -/
def fnExactEmitGotoCard : Claim7 := { stood := { row := fnExactEmitGotoRow, standIns := [], harness := (true, "d37749c70e769c1bd8b26d28513b6c64319280e16590409463640932df057973"), looks := false }, kinds := [], alts := [], laidByText := true, laidKinds := [.data, .data, .data], laidTests := true, laidLooks := .later }
def FnExactEmitGotoCardSaid : Prop := Claim7.holds Tryd.pinned (.plain (OpenSpec.ofChange fnExactEmitGotoSpec)) fnExactEmitGotoCard

/-- THE TIED CARD OF 'laws.FnExactEmitCost'. -/
def fnExactEmitCostCard : Claim7 := { stood := { row := fnExactEmitCostRow, standIns := [], harness := (true, "d37749c70e769c1bd8b26d28513b6c64319280e16590409463640932df057973"), looks := false }, kinds := [], alts := [], laidByText := true, laidKinds := [.data, .pinned], laidTests := true, laidLooks := .later }
def FnExactEmitCostCardSaid : Prop := Claim7.holds Tryd.pinned (.plain (OpenSpec.ofChange fnExactEmitCostSpec)) fnExactEmitCostCard

/-- THE SECOND FORM's CARD OF 'laws.FnExactEmitGoto'. -/
def fnExactEmitGotoUptoCard : Claim7 := { stood := { row := fnExactEmitGotoUptoRow, standIns := [], harness := (true, "d37749c70e769c1bd8b26d28513b6c64319280e16590409463640932df057973"), looks := false }, kinds := [], alts := [], laidByText := true, laidKinds := [.data, .data, .data], laidTests := true, laidLooks := .later }
def FnExactEmitGotoUptoCardSaid : Prop := Claim7.holds Tryd.pinned (.plain (OpenSpec.upto fnExactEmitGotoSpec)) fnExactEmitGotoUptoCard

/-- THE SECOND FORM's CARD OF 'laws.FnExactEmitCost'. -/
def fnExactEmitCostUptoCard : Claim7 := { stood := { row := fnExactEmitCostUptoRow, standIns := [], harness := (true, "d37749c70e769c1bd8b26d28513b6c64319280e16590409463640932df057973"), looks := false }, kinds := [], alts := [], laidByText := true, laidKinds := [.data, .pinned], laidTests := true, laidLooks := .later }
def FnExactEmitCostUptoCardSaid : Prop := Claim7.holds Tryd.pinned (.plain (OpenSpec.upto fnExactEmitCostSpec)) fnExactEmitCostUptoCard
end Rows
end Go.Proofs.YtcchjcllkfaadaaDoor
