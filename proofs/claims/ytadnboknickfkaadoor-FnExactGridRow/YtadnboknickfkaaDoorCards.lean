/-
  DERIVED. GIVEN WITH THE SEED: THE CARDS: each row of YtadnboknickfkaaDoorRows.lean that lists a variable, with what it lists TIED to the program's text (the seventh form; the later family's looks); each row that meets fmt, with fmt's text TOLD by the authors' own Lean function (tested against real Go, not proved from fmt's source: count such statements apart). THE CARD IS WHAT COUNTS. Prove the row's statement (the work); the ties are given (YtadnboknickfkaaDoorTie.lean); close each card by the builder's one call (the guide's Derived/Test/ToyasCard.lean, 'card_holds'). Laid BY PROGRAM, IN A SANDBOX (cutbox-door.mjs). By AI agents, Wed Nov 11 2026. No macro, syntax, notation, axiom, sorry.
-/
import Derived.Test.YtadnboknickfkaaDoorRows
import GoSem.ClaimSeven
namespace Go.Proofs.YtadnboknickfkaaDoor
namespace Rows

/-- THE TIED CARD OF 'laws.FnExactGridRow'. -/
def fnExactGridRowCard : Claim7 := { stood := { row := fnExactGridRowRow, standIns := [], harness := (true, "28cd2801061d2ed984b80035962a923e59474b4a75bbc5a405efde7b03cbdc14"), looks := false }, kinds := [], alts := [], laidByText := true, laidKinds := [.data, .pinned], laidTests := true, laidLooks := .later }
def FnExactGridRowCardSaid : Prop := Claim7.holds Tryd.pinned (.plain (OpenSpec.ofChange fnExactGridRowSpec)) fnExactGridRowCard

/-- THE TIED CARD OF 'laws.FnGrid'. -/
def fnGridCard : Claim7 := { stood := { row := fnGridRow, standIns := [], harness := (true, "28cd2801061d2ed984b80035962a923e59474b4a75bbc5a405efde7b03cbdc14"), looks := false }, kinds := [], alts := [], laidByText := true, laidKinds := [.data, .pinned], laidTests := true, laidLooks := .later }
def FnGridCardSaid : Prop := Claim7.holds Tryd.pinned (.plain (OpenSpec.ofChange fnGridSpec)) fnGridCard

/-- THE SECOND FORM's CARD OF 'laws.FnExactGridRow'. -/
def fnExactGridRowUptoCard : Claim7 := { stood := { row := fnExactGridRowUptoRow, standIns := [], harness := (true, "28cd2801061d2ed984b80035962a923e59474b4a75bbc5a405efde7b03cbdc14"), looks := false }, kinds := [], alts := [], laidByText := true, laidKinds := [.data, .pinned], laidTests := true, laidLooks := .later }
def FnExactGridRowUptoCardSaid : Prop := Claim7.holds Tryd.pinned (.plain (OpenSpec.upto fnExactGridRowSpec)) fnExactGridRowUptoCard

/-- THE SECOND FORM's CARD OF 'laws.FnGrid'. -/
def fnGridUptoCard : Claim7 := { stood := { row := fnGridUptoRow, standIns := [], harness := (true, "28cd2801061d2ed984b80035962a923e59474b4a75bbc5a405efde7b03cbdc14"), looks := false }, kinds := [], alts := [], laidByText := true, laidKinds := [.data, .pinned], laidTests := true, laidLooks := .later }
def FnGridUptoCardSaid : Prop := Claim7.holds Tryd.pinned (.plain (OpenSpec.upto fnGridSpec)) fnGridUptoCard
end Rows
end Go.Proofs.YtadnboknickfkaaDoor
