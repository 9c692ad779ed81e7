/-
  DERIVED. GIVEN WITH THE SEED: THE CARDS: each row of YtojalheohpkdoaaDoorRows.lean that lists a variable, with what it lists TIED to the program's text (the seventh form; the later family's looks); each row that meets fmt, with fmt's text TOLD by the authors' own Lean function (tested against real Go, not proved from fmt's source: count such statements apart). THE CARD IS WHAT COUNTS. Prove the row's statement (the work); the ties are given (YtojalheohpkdoaaDoorTie.lean); close each card by the builder's one call (the guide's Derived/Test/ToyasCard.lean, 'card_holds'). Laid BY PROGRAM, IN A SANDBOX (cutbox-door.mjs). By AI agents, Wed Nov 11 2026. No macro, syntax, notation, axiom, sorry.
-/
import Derived.Test.YtojalheohpkdoaaDoorRows
import GoSem.ClaimSeven
namespace Go.Proofs.YtojalheohpkdoaaDoor
namespace Rows

/-- THE TIED CARD OF 'laws.FnExactVtOk'. -/
def fnExactVtOkCard : Claim7 := { stood := { row := fnExactVtOkRow, standIns := [], harness := (true, "6efb6287d3ac1593c5aee1bbb36ae1c8b453664eb78650488ca287af422fa2c1"), looks := false }, kinds := [], alts := [], laidByText := true, laidKinds := [.data, .pinned], laidTests := true, laidLooks := .later }
def FnExactVtOkCardSaid : Prop := Claim7.holds Tryd.pinned (.plain (OpenSpec.ofChange fnExactVtOkSpec)) fnExactVtOkCard

/-- THE TIED CARD OF 'laws.FnExactVtSize'. -/
def fnExactVtSizeCard : Claim7 := { stood := { row := fnExactVtSizeRow, standIns := [], harness := (true, "6efb6287d3ac1593c5aee1bbb36ae1c8b453664eb78650488ca287af422fa2c1"), looks := false }, kinds := [], alts := [], laidByText := true, laidKinds := [.data, .pinned], laidTests := true, laidLooks := .later }
def FnExactVtSizeCardSaid : Prop := Claim7.holds Tryd.pinned (.plain (OpenSpec.ofChange fnExactVtSizeSpec)) fnExactVtSizeCard

/-- THE TIED CARD OF 'laws.FnExactRuneBegin'. -/
def fnExactRuneBeginCard : Claim7 := { stood := { row := fnExactRuneBeginRow, standIns := [], harness := (true, "6efb6287d3ac1593c5aee1bbb36ae1c8b453664eb78650488ca287af422fa2c1"), looks := false }, kinds := [], alts := [], laidByText := true, laidKinds := [.data, .pinned], laidTests := true, laidLooks := .later }
def FnExactRuneBeginCardSaid : Prop := Claim7.holds Tryd.pinned (.plain (OpenSpec.ofChange fnExactRuneBeginSpec)) fnExactRuneBeginCard

/-- THE SECOND FORM's CARD OF 'laws.FnExactVtOk'. -/
def fnExactVtOkUptoCard : Claim7 := { stood := { row := fnExactVtOkUptoRow, standIns := [], harness := (true, "6efb6287d3ac1593c5aee1bbb36ae1c8b453664eb78650488ca287af422fa2c1"), looks := false }, kinds := [], alts := [], laidByText := true, laidKinds := [.data, .pinned], laidTests := true, laidLooks := .later }
def FnExactVtOkUptoCardSaid : Prop := Claim7.holds Tryd.pinned (.plain (OpenSpec.upto fnExactVtOkSpec)) fnExactVtOkUptoCard

/-- THE SECOND FORM's CARD OF 'laws.FnExactVtSize'. -/
def fnExactVtSizeUptoCard : Claim7 := { stood := { row := fnExactVtSizeUptoRow, standIns := [], harness := (true, "6efb6287d3ac1593c5aee1bbb36ae1c8b453664eb78650488ca287af422fa2c1"), looks := false }, kinds := [], alts := [], laidByText := true, laidKinds := [.data, .pinned], laidTests := true, laidLooks := .later }
def FnExactVtSizeUptoCardSaid : Prop := Claim7.holds Tryd.pinned (.plain (OpenSpec.upto fnExactVtSizeSpec)) fnExactVtSizeUptoCard

/-- THE SECOND FORM's CARD OF 'laws.FnExactRuneBegin'. -/
def fnExactRuneBeginUptoCard : Claim7 := { stood := { row := fnExactRuneBeginUptoRow, standIns := [], harness := (true, "6efb6287d3ac1593c5aee1bbb36ae1c8b453664eb78650488ca287af422fa2c1"), looks := false }, kinds := [], alts := [], laidByText := true, laidKinds := [.data, .pinned], laidTests := true, laidLooks := .later }
def FnExactRuneBeginUptoCardSaid : Prop := Claim7.holds Tryd.pinned (.plain (OpenSpec.upto fnExactRuneBeginSpec)) fnExactRuneBeginUptoCard
end Rows
end Go.Proofs.YtojalheohpkdoaaDoor
