/-
  DERIVED. GIVEN WITH THE SEED: THE CARDS: each row of YthodinpflcbklaaDoorRows.lean that lists a variable, with what it lists TIED to the program's text (the seventh form; the later family's looks); each row that meets fmt, with fmt's text TOLD by the authors' own Lean function (tested against real Go, not proved from fmt's source: count such statements apart). THE CARD IS WHAT COUNTS. Prove the row's statement (the work); the ties are given (YthodinpflcbklaaDoorTie.lean); close each card by the builder's one call (the guide's Derived/Test/ToyasCard.lean, 'card_holds'). Laid BY PROGRAM, IN A SANDBOX (cutbox-door.mjs). By AI agents, Wed Nov 11 2026. No macro, syntax, notation, axiom, sorry.
-/
import Derived.Test.YthodinpflcbklaaDoorRows
import GoSem.ClaimSeven
namespace Go.Proofs.YthodinpflcbklaaDoor
namespace Rows

/-- THE TIED CARD OF 'laws.FnExactVtByte'. -/
def fnExactVtByteCard : Claim7 := { stood := { row := fnExactVtByteRow, standIns := [], harness := (true, "7710417c8b2ce5f3405720889e7a082dffc0fdf98d9a70fd38841e1c8590b741"), looks := false }, kinds := [], alts := [], laidByText := true, laidKinds := [.data, .pinned], laidTests := true, laidLooks := .later }
def FnExactVtByteCardSaid : Prop := Claim7.holds Tryd.pinned (.plain (OpenSpec.ofChange fnExactVtByteSpec)) fnExactVtByteCard

/-- THE TIED CARD OF 'laws.FnExactVtFeed'. -/
def fnExactVtFeedCard : Claim7 := { stood := { row := fnExactVtFeedRow, standIns := [], harness := (true, "7710417c8b2ce5f3405720889e7a082dffc0fdf98d9a70fd38841e1c8590b741"), looks := false }, kinds := [], alts := [], laidByText := true, laidKinds := [.data, .pinned], laidTests := true, laidLooks := .later }
def FnExactVtFeedCardSaid : Prop := Claim7.holds Tryd.pinned (.plain (OpenSpec.ofChange fnExactVtFeedSpec)) fnExactVtFeedCard

/-- THE TIED CARD OF 'laws.FnVt'. -/
def fnVtCard : Claim7 := { stood := { row := fnVtRow, standIns := [], harness := (true, "7710417c8b2ce5f3405720889e7a082dffc0fdf98d9a70fd38841e1c8590b741"), looks := false }, kinds := [], alts := [], laidByText := true, laidKinds := [.data, .pinned], laidTests := true, laidLooks := .later }
def FnVtCardSaid : Prop := Claim7.holds Tryd.pinned (.plain (OpenSpec.ofChange fnVtSpec)) fnVtCard

/-- THE SECOND FORM's CARD OF 'laws.FnExactVtByte'. -/
def fnExactVtByteUptoCard : Claim7 := { stood := { row := fnExactVtByteUptoRow, standIns := [], harness := (true, "7710417c8b2ce5f3405720889e7a082dffc0fdf98d9a70fd38841e1c8590b741"), looks := false }, kinds := [], alts := [], laidByText := true, laidKinds := [.data, .pinned], laidTests := true, laidLooks := .later }
def FnExactVtByteUptoCardSaid : Prop := Claim7.holds Tryd.pinned (.plain (OpenSpec.upto fnExactVtByteSpec)) fnExactVtByteUptoCard

/-- THE SECOND FORM's CARD OF 'laws.FnExactVtFeed'. -/
def fnExactVtFeedUptoCard : Claim7 := { stood := { row := fnExactVtFeedUptoRow, standIns := [], harness := (true, "7710417c8b2ce5f3405720889e7a082dffc0fdf98d9a70fd38841e1c8590b741"), looks := false }, kinds := [], alts := [], laidByText := true, laidKinds := [.data, .pinned], laidTests := true, laidLooks := .later }
def FnExactVtFeedUptoCardSaid : Prop := Claim7.holds Tryd.pinned (.plain (OpenSpec.upto fnExactVtFeedSpec)) fnExactVtFeedUptoCard

/-- THE SECOND FORM's CARD OF 'laws.FnVt'. -/
def fnVtUptoCard : Claim7 := { stood := { row := fnVtUptoRow, standIns := [], harness := (true, "7710417c8b2ce5f3405720889e7a082dffc0fdf98d9a70fd38841e1c8590b741"), looks := false }, kinds := [], alts := [], laidByText := true, laidKinds := [.data, .pinned], laidTests := true, laidLooks := .later }
def FnVtUptoCardSaid : Prop := Claim7.holds Tryd.pinned (.plain (OpenSpec.upto fnVtSpec)) fnVtUptoCard
end Rows
end Go.Proofs.YthodinpflcbklaaDoor
