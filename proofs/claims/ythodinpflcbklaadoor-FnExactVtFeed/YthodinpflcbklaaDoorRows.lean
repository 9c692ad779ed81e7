/-
  NARROWER THAN 'FOR EVERY INPUT', by the rows' own cells (each row's printed sentence says how): FnExactVtByte: laid · FnExactVtFeed: laid · FnVt: laid.
  DERIVED. THE GIVEN ROWS OF THIS SEAT. 3 by the template 'for every input the law returns true; each argument reads behind the call as it read before'; 0 by the template 'total and deterministic' (their statements: YthodinpflcbklaaDoorTotals.lean).
  GIVEN WITH THE SEED: the statements are not yours to turn. If you find one false, say at which input.
  Laid BY PROGRAM, IN A SANDBOX (cutbox-rows.mjs): the forced cells as the released guide's own fill.sh prints them over the translation 7ed8cfacfc81d969… (all of the seat's roots in one cut). By AI agents, Wed Nov 11 2026. No macro, syntax, notation, axiom, sorry.
-/
import Derived.Test.YthodinpflcbklaaDoorChecked
import GoSem.PinnedTables
import GoSem.Claim
import GoSem.ClaimJoined
import GoSem.ClaimMapViews
import Derived.JoinedTies
import Derived.KernelRfl
namespace Go.Proofs.YthodinpflcbklaaDoor
/- THE CELL 'sum', in the pinned program and in every row, IS THE sha256 OF THE DUMP (.gsa) THAT YthodinpflcbklaaDoorProg.lean LOADS. Nothing in Lean hashes anything: it is a label: what it is worth is what the hold of that sum in a sandbox is worth. -/
noncomputable def Tryd.pinned : Pinned := { name := "ythodinpflcbklaadoor", sum := "7ed8cfacfc81d969927ee544de16e0d88f16f723a04ac8e21db5164572a81b67", checked := Tryd.checked }
namespace Rows
def none {H : Type} : Left H := { results := [], args := [] }

/- WHAT THE LISTED PACKAGE-LEVEL VARIABLES READ AS WHEN THE CALL BEGINS. Each datum BY PROGRAM (the guide's laid-datum.mjs) off the statement by which the dump's own 'gosem.cut.vars' lays the variable. In a bare row this is a premise. The card (YthodinpflcbklaaDoorCards.lean) ties it to the program's text. -/
def laid_unicode_utf8_acceptRanges {H : Type} : DataW H := .agg [.agg [.lit (.int .u8 128), .lit (.int .u8 191)], .agg [.lit (.int .u8 160), .lit (.int .u8 191)], .agg [.lit (.int .u8 128), .lit (.int .u8 159)], .agg [.lit (.int .u8 144), .lit (.int .u8 191)], .agg [.lit (.int .u8 128), .lit (.int .u8 143)], .agg [.lit (.int .u8 0), .lit (.int .u8 0)], .agg [.lit (.int .u8 0), .lit (.int .u8 0)], .agg [.lit (.int .u8 0), .lit (.int .u8 0)], .agg [.lit (.int .u8 0), .lit (.int .u8 0)], .agg [.lit (.int .u8 0), .lit (.int .u8 0)], .agg [.lit (.int .u8 0), .lit (.int .u8 0)], .agg [.lit (.int .u8 0), .lit (.int .u8 0)], .agg [.lit (.int .u8 0), .lit (.int .u8 0)], .agg [.lit (.int .u8 0), .lit (.int .u8 0)], .agg [.lit (.int .u8 0), .lit (.int .u8 0)], .agg [.lit (.int .u8 0), .lit (.int .u8 0)]]
/-- One of Go's own tables, pinned by name: the form's constant. -/
def laid_unicode_utf8_first : DataW Unit := Go.Pinned.utf8First

/-- 'laws.FnExactVtByte': WHATEVER THE INPUT: true; the input reads as it did. -/
def fnExactVtByteSpec : ChangeSpec := { name := "fnExactVtByte", fn := fun _ => fun
  | [d1, d2] => { results := [.lit (.bool true)], args := [d1, d2] }
  | _ => none }
def fnExactVtByteRow : OpenClaim := { program := "ythodinpflcbklaadoor", sum := "7ed8cfacfc81d969927ee544de16e0d88f16f723a04ac8e21db5164572a81b67", func := "loop.example/g00600/laws.FnExactVtByte", spec := "fnExactVtByte", unfollowed := true, recurses := true, named := ["unicode/utf8.first", "unicode/utf8.acceptRanges"], apart := false, laid := [("unicode/utf8.acceptRanges", laid_unicode_utf8_acceptRanges), ("unicode/utf8.first", laid_unicode_utf8_first)] }
def FnExactVtByteSaid : Prop := fnExactVtByteRow.holds Tryd.pinned (OpenSpec.ofChange fnExactVtByteSpec)

/-- ITS FALSE NEIGHBOUR: 'it returns false'. Refute it at one input. -/
def fnExactVtByteWrong : ChangeSpec := { name := "fnExactVtByte", fn := fun _ => fun
  | [d1, d2] => { results := [.lit (.bool false)], args := [d1, d2] }
  | _ => none }
def FnExactVtByteWrongFalsely : Prop := fnExactVtByteRow.holds Tryd.pinned (OpenSpec.ofChange fnExactVtByteWrong)

/-- 'laws.FnExactVtFeed': WHATEVER THE INPUT: true; the input reads as it did. -/
def fnExactVtFeedSpec : ChangeSpec := { name := "fnExactVtFeed", fn := fun _ => fun
  | [d1, d2] => { results := [.lit (.bool true)], args := [d1, d2] }
  | _ => none }
def fnExactVtFeedRow : OpenClaim := { program := "ythodinpflcbklaadoor", sum := "7ed8cfacfc81d969927ee544de16e0d88f16f723a04ac8e21db5164572a81b67", func := "loop.example/g00600/laws.FnExactVtFeed", spec := "fnExactVtFeed", unfollowed := true, recurses := true, named := ["unicode/utf8.first", "unicode/utf8.acceptRanges"], apart := false, laid := [("unicode/utf8.acceptRanges", laid_unicode_utf8_acceptRanges), ("unicode/utf8.first", laid_unicode_utf8_first)] }
def FnExactVtFeedSaid : Prop := fnExactVtFeedRow.holds Tryd.pinned (OpenSpec.ofChange fnExactVtFeedSpec)

/-- ITS FALSE NEIGHBOUR: 'it returns false'. Refute it at one input. -/
def fnExactVtFeedWrong : ChangeSpec := { name := "fnExactVtFeed", fn := fun _ => fun
  | [d1, d2] => { results := [.lit (.bool false)], args := [d1, d2] }
  | _ => none }
def FnExactVtFeedWrongFalsely : Prop := fnExactVtFeedRow.holds Tryd.pinned (OpenSpec.ofChange fnExactVtFeedWrong)

/-- 'laws.FnVt': WHATEVER THE INPUT: true; the input reads as it did. -/
def fnVtSpec : ChangeSpec := { name := "fnVt", fn := fun _ => fun
  | [d] => { results := [.lit (.bool true)], args := [d] }
  | _ => none }
def fnVtRow : OpenClaim := { program := "ythodinpflcbklaadoor", sum := "7ed8cfacfc81d969927ee544de16e0d88f16f723a04ac8e21db5164572a81b67", func := "loop.example/g00600/laws.FnVt", spec := "fnVt", unfollowed := true, recurses := true, named := ["unicode/utf8.first", "unicode/utf8.acceptRanges"], apart := false, laid := [("unicode/utf8.acceptRanges", laid_unicode_utf8_acceptRanges), ("unicode/utf8.first", laid_unicode_utf8_first)] }
def FnVtSaid : Prop := fnVtRow.holds Tryd.pinned (OpenSpec.ofChange fnVtSpec)

/-- ITS FALSE NEIGHBOUR: 'it returns false'. Refute it at one input. -/
def fnVtWrong : ChangeSpec := { name := "fnVt", fn := fun _ => fun
  | [d] => { results := [.lit (.bool false)], args := [d] }
  | _ => none }
def FnVtWrongFalsely : Prop := fnVtRow.holds Tryd.pinned (OpenSpec.ofChange fnVtWrong)

/- THE SECOND FORM. 'bulk': how many values and letters a reading holds, each counted each time it is reached (what is shared counts as often as it is met; a slice's spare places count too). A statement '..UptoSaid' is the law's where the arguments, and the package variables that the reading takes, are together of bulk at most 1048576: NARROWER than '..Said'. Prove '..Said' where nothing that the law and all that it calls make is longer than what came in: it says more and counts as full. Else prove '..UptoSaid'. A law counts once. -/
mutual
def uptoBulk {H : Type} : DataW H → Nat
  | .lit (.string bytes) => bytes.length + 1
  | .lit _ => 1
  | .nil => 1
  | .ptr d => uptoBulk d + 1
  | .slice elems spare => uptoBulkAll elems + uptoBulkAll spare + 1
  | .agg parts => uptoBulkAll parts + 1
  | .iface _ d => uptoBulk d + 1
  | .map entries => uptoBulkEntries entries + 1
  | .held _ => 1
def uptoBulkAll {H : Type} : List (DataW H) → Nat
  | [] => 0
  | d :: r => uptoBulk d + uptoBulkAll r
def uptoBulkEntries {H : Type} : List (Lit × DataW H) → Nat
  | [] => 0
  | x :: r => uptoBulkEntry x + uptoBulkEntries r
def uptoBulkEntry {H : Type} : Lit × DataW H → Nat
  | (.string bytes, d) => bytes.length + uptoBulk d + 1
  | (_, d) => uptoBulk d + 1
 end
def uptoSmall : (H : Type) → List (DataW H) → Bool := fun _ ds => decide (uptoBulkAll ds ≤ 1048576)
def OpenSpec.upto (s : _root_.Go.ChangeSpec) : _root_.Go.OpenSpec := { _root_.Go.OpenSpec.ofChange s with cond := some uptoSmall }

/-- 'laws.FnExactVtByte', WHERE WHAT IT READS IS OF BULK AT MOST 1048576: true; the input reads as it did. -/
def fnExactVtByteUptoRow : OpenClaim := { program := "ythodinpflcbklaadoor", sum := "7ed8cfacfc81d969927ee544de16e0d88f16f723a04ac8e21db5164572a81b67", func := "loop.example/g00600/laws.FnExactVtByte", spec := "fnExactVtByte", unfollowed := true, recurses := true, named := ["unicode/utf8.first", "unicode/utf8.acceptRanges"], apart := false, laid := [("unicode/utf8.acceptRanges", laid_unicode_utf8_acceptRanges), ("unicode/utf8.first", laid_unicode_utf8_first)], narrowed := true }
def FnExactVtByteUptoSaid : Prop := fnExactVtByteUptoRow.holds Tryd.pinned (OpenSpec.upto fnExactVtByteSpec)

/-- 'laws.FnExactVtFeed', WHERE WHAT IT READS IS OF BULK AT MOST 1048576: true; the input reads as it did. -/
def fnExactVtFeedUptoRow : OpenClaim := { program := "ythodinpflcbklaadoor", sum := "7ed8cfacfc81d969927ee544de16e0d88f16f723a04ac8e21db5164572a81b67", func := "loop.example/g00600/laws.FnExactVtFeed", spec := "fnExactVtFeed", unfollowed := true, recurses := true, named := ["unicode/utf8.first", "unicode/utf8.acceptRanges"], apart := false, laid := [("unicode/utf8.acceptRanges", laid_unicode_utf8_acceptRanges), ("unicode/utf8.first", laid_unicode_utf8_first)], narrowed := true }
def FnExactVtFeedUptoSaid : Prop := fnExactVtFeedUptoRow.holds Tryd.pinned (OpenSpec.upto fnExactVtFeedSpec)

/-- 'laws.FnVt', WHERE WHAT IT READS IS OF BULK AT MOST 1048576: true; the input reads as it did. -/
def fnVtUptoRow : OpenClaim := { program := "ythodinpflcbklaadoor", sum := "7ed8cfacfc81d969927ee544de16e0d88f16f723a04ac8e21db5164572a81b67", func := "loop.example/g00600/laws.FnVt", spec := "fnVt", unfollowed := true, recurses := true, named := ["unicode/utf8.first", "unicode/utf8.acceptRanges"], apart := false, laid := [("unicode/utf8.acceptRanges", laid_unicode_utf8_acceptRanges), ("unicode/utf8.first", laid_unicode_utf8_first)], narrowed := true }
def FnVtUptoSaid : Prop := fnVtUptoRow.holds Tryd.pinned (OpenSpec.upto fnVtSpec)

end Rows
end Go.Proofs.YthodinpflcbklaaDoor
