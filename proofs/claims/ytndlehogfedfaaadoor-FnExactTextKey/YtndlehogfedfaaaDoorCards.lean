/-
  DERIVED. GIVEN WITH THE SEED: THE CARDS: each row of YtndlehogfedfaaaDoorRows.lean that lists a variable, with what it lists TIED to the program's text (the seventh form; the later family's looks); each row that meets fmt, with fmt's text TOLD by the authors' own Lean function (tested against real Go, not proved from fmt's source: count such statements apart). THE CARD IS WHAT COUNTS. Prove the row's statement (the work); the ties are given (YtndlehogfedfaaaDoorTie.lean); close each card by the builder's one call (the guide's Derived/Test/ToyasCard.lean, 'card_holds'). Laid BY PROGRAM, IN A SANDBOX (cutbox-door.mjs). By AI agents, Wed Nov 11 2026. No macro, syntax, notation, axiom, sorry.
-/
import Derived.Test.YtndlehogfedfaaaDoorRows
import GoSem.ClaimSeven
namespace Go.Proofs.YtndlehogfedfaaaDoor
namespace Rows

/-- THE TIED CARD OF 'laws.FnExactKeyText'. -/
def fnExactKeyTextCard : Claim7 := { stood := { row := fnExactKeyTextRow, standIns := [], harness := (true, "8ba9460169d5e35c6fef5136db4cc435bad4aedc87403ae6ed52b9a9887168c7"), looks := false }, kinds := [], alts := [], laidByText := true, laidKinds := [.data], laidTests := true, laidLooks := .later }
def FnExactKeyTextCardSaid : Prop := Claim7.holds Tryd.pinned (.plain (OpenSpec.ofChange fnExactKeyTextSpec)) fnExactKeyTextCard

/-- THE TIED CARD OF 'laws.FnExactTextKey'. -/
def fnExactTextKeyCard : Claim7 := { stood := { row := fnExactTextKeyRow, standIns := [], harness := (true, "8ba9460169d5e35c6fef5136db4cc435bad4aedc87403ae6ed52b9a9887168c7"), looks := false }, kinds := [], alts := [], laidByText := true, laidKinds := [.data, .data, .pinned], laidTests := true, laidLooks := .later }
def FnExactTextKeyCardSaid : Prop := Claim7.holds Tryd.pinned (.plain (OpenSpec.ofChange fnExactTextKeySpec)) fnExactTextKeyCard

/-- THE TIED CARD OF 'laws.FnExactKeyBytes'. -/
def fnExactKeyBytesCard : Claim7 := { stood := { row := fnExactKeyBytesRow, standIns := [], harness := (true, "8ba9460169d5e35c6fef5136db4cc435bad4aedc87403ae6ed52b9a9887168c7"), looks := false }, kinds := [], alts := [], laidByText := true, laidKinds := [.data], laidTests := true, laidLooks := .later }
def FnExactKeyBytesCardSaid : Prop := Claim7.holds Tryd.pinned (.plain (OpenSpec.ofChange fnExactKeyBytesSpec)) fnExactKeyBytesCard

/-- THE SECOND FORM's CARD OF 'laws.FnExactKeyText'. -/
def fnExactKeyTextUptoCard : Claim7 := { stood := { row := fnExactKeyTextUptoRow, standIns := [], harness := (true, "8ba9460169d5e35c6fef5136db4cc435bad4aedc87403ae6ed52b9a9887168c7"), looks := false }, kinds := [], alts := [], laidByText := true, laidKinds := [.data], laidTests := true, laidLooks := .later }
def FnExactKeyTextUptoCardSaid : Prop := Claim7.holds Tryd.pinned (.plain (OpenSpec.upto fnExactKeyTextSpec)) fnExactKeyTextUptoCard

/-- THE SECOND FORM's CARD OF 'laws.FnExactTextKey'. -/
def fnExactTextKeyUptoCard : Claim7 := { stood := { row := fnExactTextKeyUptoRow, standIns := [], harness := (true, "8ba9460169d5e35c6fef5136db4cc435bad4aedc87403ae6ed52b9a9887168c7"), looks := false }, kinds := [], alts := [], laidByText := true, laidKinds := [.data, .data, .pinned], laidTests := true, laidLooks := .later }
def FnExactTextKeyUptoCardSaid : Prop := Claim7.holds Tryd.pinned (.plain (OpenSpec.upto fnExactTextKeySpec)) fnExactTextKeyUptoCard

/-- THE SECOND FORM's CARD OF 'laws.FnExactKeyBytes'. -/
def fnExactKeyBytesUptoCard : Claim7 := { stood := { row := fnExactKeyBytesUptoRow, standIns := [], harness := (true, "8ba9460169d5e35c6fef5136db4cc435bad4aedc87403ae6ed52b9a9887168c7"), looks := false }, kinds := [], alts := [], laidByText := true, laidKinds := [.data], laidTests := true, laidLooks := .later }
def FnExactKeyBytesUptoCardSaid : Prop := Claim7.holds Tryd.pinned (.plain (OpenSpec.upto fnExactKeyBytesSpec)) fnExactKeyBytesUptoCard
end Rows
end Go.Proofs.YtndlehogfedfaaaDoor
