/-
  NARROWER THAN 'FOR EVERY INPUT', by the rows' own cells (each row's printed sentence says how): FnExactVtOk: laid · FnExactVtSize: laid · FnExactRuneBegin: laid.
  DERIVED. THE GIVEN ROWS OF THIS SEAT. 3 by the template 'for every input the law returns true; each argument reads behind the call as it read before'; 0 by the template 'total and deterministic' (their statements: YtojalheohpkdoaaDoorTotals.lean).
  GIVEN WITH THE SEED: the statements are not yours to turn. If you find one false, say at which input.
  Laid BY PROGRAM, IN A SANDBOX (cutbox-rows.mjs): the forced cells as the released guide's own fill.sh prints them over the translation 3a0c55d86522a0af… (all of the seat's roots in one cut). By AI agents, Wed Nov 11 2026. No macro, syntax, notation, axiom, sorry.
-/
import Derived.Test.YtojalheohpkdoaaDoorChecked
import GoSem.PinnedTables
import GoSem.Claim
import GoSem.ClaimJoined
import GoSem.ClaimMapViews
import Derived.JoinedTies
import Derived.KernelRfl
namespace Go.Proofs.YtojalheohpkdoaaDoor
/- THE CELL 'sum', in the pinned program and in every row, IS THE sha256 OF THE DUMP (.gsa) THAT YtojalheohpkdoaaDoorProg.lean LOADS. Nothing in Lean hashes anything: it is a label: what it is worth is what the hold of that sum in a sandbox is worth. -/
noncomputable def Tryd.pinned : Pinned := { name := "ytojalheohpkdoaadoor", sum := "3a0c55d86522a0afda3e988eb4db27aee4a61eb880230f72e08eec1efb9d7814", checked := Tryd.checked }
namespace Rows
def none {H : Type} : Left H := { results := [], args := [] }

/- WHAT THE LISTED PACKAGE-LEVEL VARIABLES READ AS WHEN THE CALL BEGINS. Each datum BY PROGRAM (the guide's laid-datum.mjs) off the statement by which the dump's own 'gosem.cut.vars' lays the variable. In a bare row this is a premise. The card (YtojalheohpkdoaaDoorCards.lean) ties it to the program's text. -/
def laid_unicode_utf8_acceptRanges {H : Type} : DataW H := .agg [.agg [.lit (.int .u8 128), .lit (.int .u8 191)], .agg [.lit (.int .u8 160), .lit (.int .u8 191)], .agg [.lit (.int .u8 128), .lit (.int .u8 159)], .agg [.lit (.int .u8 144), .lit (.int .u8 191)], .agg [.lit (.int .u8 128), .lit (.int .u8 143)], .agg [.lit (.int .u8 0), .lit (.int .u8 0)], .agg [.lit (.int .u8 0), .lit (.int .u8 0)], .agg [.lit (.int .u8 0), .lit (.int .u8 0)], .agg [.lit (.int .u8 0), .lit (.int .u8 0)], .agg [.lit (.int .u8 0), .lit (.int .u8 0)], .agg [.lit (.int .u8 0), .lit (.int .u8 0)], .agg [.lit (.int .u8 0), .lit (.int .u8 0)], .agg [.lit (.int .u8 0), .lit (.int .u8 0)], .agg [.lit (.int .u8 0), .lit (.int .u8 0)], .agg [.lit (.int .u8 0), .lit (.int .u8 0)], .agg [.lit (.int .u8 0), .lit (.int .u8 0)]]
/-- One of Go's own tables, pinned by name: the form's constant. -/
def laid_unicode_utf8_first : DataW Unit := Go.Pinned.utf8First

/-- 'laws.FnExactVtOk': WHATEVER THE INPUT: true; the input reads as it did. -/
def fnExactVtOkSpec : ChangeSpec := { name := "fnExactVtOk", fn := fun _ => fun
  | [d] => { results := [.lit (.bool true)], args := [d] }
  | _ => none }
def fnExactVtOkRow : OpenClaim := { program := "ytojalheohpkdoaadoor", sum := "3a0c55d86522a0afda3e988eb4db27aee4a61eb880230f72e08eec1efb9d7814", func := "loop.example/g00600/laws.FnExactVtOk", spec := "fnExactVtOk", named := ["unicode/utf8.first", "unicode/utf8.acceptRanges"], apart := false, laid := [("unicode/utf8.acceptRanges", laid_unicode_utf8_acceptRanges), ("unicode/utf8.first", laid_unicode_utf8_first)] }
def FnExactVtOkSaid : Prop := fnExactVtOkRow.holds Tryd.pinned (OpenSpec.ofChange fnExactVtOkSpec)

/-- ITS FALSE NEIGHBOUR: 'it returns false'. Refute it at one input. -/
def fnExactVtOkWrong : ChangeSpec := { name := "fnExactVtOk", fn := fun _ => fun
  | [d] => { results := [.lit (.bool false)], args := [d] }
  | _ => none }
def FnExactVtOkWrongFalsely : Prop := fnExactVtOkRow.holds Tryd.pinned (OpenSpec.ofChange fnExactVtOkWrong)

/-- 'laws.FnExactVtSize': WHATEVER THE INPUT: true; the input reads as it did. -/
def fnExactVtSizeSpec : ChangeSpec := { name := "fnExactVtSize", fn := fun _ => fun
  | [d1, d2, d3] => { results := [.lit (.bool true)], args := [d1, d2, d3] }
  | _ => none }
def fnExactVtSizeRow : OpenClaim := { program := "ytojalheohpkdoaadoor", sum := "3a0c55d86522a0afda3e988eb4db27aee4a61eb880230f72e08eec1efb9d7814", func := "loop.example/g00600/laws.FnExactVtSize", spec := "fnExactVtSize", named := ["unicode/utf8.first", "unicode/utf8.acceptRanges"], apart := false, laid := [("unicode/utf8.acceptRanges", laid_unicode_utf8_acceptRanges), ("unicode/utf8.first", laid_unicode_utf8_first)] }
def FnExactVtSizeSaid : Prop := fnExactVtSizeRow.holds Tryd.pinned (OpenSpec.ofChange fnExactVtSizeSpec)

/-- ITS FALSE NEIGHBOUR: 'it returns false'. Refute it at one input. -/
def fnExactVtSizeWrong : ChangeSpec := { name := "fnExactVtSize", fn := fun _ => fun
  | [d1, d2, d3] => { results := [.lit (.bool false)], args := [d1, d2, d3] }
  | _ => none }
def FnExactVtSizeWrongFalsely : Prop := fnExactVtSizeRow.holds Tryd.pinned (OpenSpec.ofChange fnExactVtSizeWrong)

/-- 'laws.FnExactRuneBegin': WHATEVER THE INPUT: true; the input reads as it did. -/
def fnExactRuneBeginSpec : ChangeSpec := { name := "fnExactRuneBegin", fn := fun _ => fun
  | [d] => { results := [.lit (.bool true)], args := [d] }
  | _ => none }
def fnExactRuneBeginRow : OpenClaim := { program := "ytojalheohpkdoaadoor", sum := "3a0c55d86522a0afda3e988eb4db27aee4a61eb880230f72e08eec1efb9d7814", func := "loop.example/g00600/laws.FnExactRuneBegin", spec := "fnExactRuneBegin", named := ["unicode/utf8.first", "unicode/utf8.acceptRanges"], apart := false, laid := [("unicode/utf8.acceptRanges", laid_unicode_utf8_acceptRanges), ("unicode/utf8.first", laid_unicode_utf8_first)] }
def FnExactRuneBeginSaid : Prop := fnExactRuneBeginRow.holds Tryd.pinned (OpenSpec.ofChange fnExactRuneBeginSpec)

/-- ITS FALSE NEIGHBOUR: 'it returns false'. Refute it at one input. -/
def fnExactRuneBeginWrong : ChangeSpec := { name := "fnExactRuneBegin", fn := fun _ => fun
  | [d] => { results := [.lit (.bool false)], args := [d] }
  | _ => none }
def FnExactRuneBeginWrongFalsely : Prop := fnExactRuneBeginRow.holds Tryd.pinned (OpenSpec.ofChange fnExactRuneBeginWrong)

/- THE SECOND FORM. 'bulk': how many values and letters a reading holds, each counted each time it is reached (what is shared counts as often as it is met; a slice's spare places count too). A statement '..UptoSaid' is the law's where the arguments, and the package variables that the reading takes, are together of bulk at most 1048576: NARROWER than '..Said'. Prove '..Said' where nothing that the law and all that it calls make is longer than what came in: it says more and counts as full. Else prove '..UptoSaid'. A law counts once. -/
mutual
def uptoBulk {H : Type} : DataW H → Nat
  | .lit (.string bytes) => bytes.length + 1
  | .lit _ => 1
  | .nil => 1
  | .ptr d => uptoBulk d + 1
  | .slice elems spare => uptoBulkAll elems + uptoBulkAll spare + 1
  | .agg parts => uptoBulkAll parts + 1
  | .iface _ d => uptoBulk d + 1
  | .map entries => uptoBulkEntries entries + 1
  | .held _ => 1
def uptoBulkAll {H : Type} : List (DataW H) → Nat
  | [] => 0
  | d :: r => uptoBulk d + uptoBulkAll r
def uptoBulkEntries {H : Type} : List (Lit × DataW H) → Nat
  | [] => 0
  | x :: r => uptoBulkEntry x + uptoBulkEntries r
def uptoBulkEntry {H : Type} : Lit × DataW H → Nat
  | (.string bytes, d) => bytes.length + uptoBulk d + 1
  | (_, d) => uptoBulk d + 1
 end
def uptoSmall : (H : Type) → List (DataW H) → Bool := fun _ ds => decide (uptoBulkAll ds ≤ 1048576)
def OpenSpec.upto (s : _root_.Go.ChangeSpec) : _root_.Go.OpenSpec := { _root_.Go.OpenSpec.ofChange s with cond := some uptoSmall }

/-- 'laws.FnExactVtOk', WHERE WHAT IT READS IS OF BULK AT MOST 1048576: true; the input reads as it did. -/
def fnExactVtOkUptoRow : OpenClaim := { program := "ytojalheohpkdoaadoor", sum := "3a0c55d86522a0afda3e988eb4db27aee4a61eb880230f72e08eec1efb9d7814", func := "loop.example/g00600/laws.FnExactVtOk", spec := "fnExactVtOk", named := ["unicode/utf8.first", "unicode/utf8.acceptRanges"], apart := false, laid := [("unicode/utf8.acceptRanges", laid_unicode_utf8_acceptRanges), ("unicode/utf8.first", laid_unicode_utf8_first)], narrowed := true }
def FnExactVtOkUptoSaid : Prop := fnExactVtOkUptoRow.holds Tryd.pinned (OpenSpec.upto fnExactVtOkSpec)

/-- 'laws.FnExactVtSize', WHERE WHAT IT READS IS OF BULK AT MOST 1048576: true; the input reads as it did. -/
def fnExactVtSizeUptoRow : OpenClaim := { program := "ytojalheohpkdoaadoor", sum := "3a0c55d86522a0afda3e988eb4db27aee4a61eb880230f72e08eec1efb9d7814", func := "loop.example/g00600/laws.FnExactVtSize", spec := "fnExactVtSize", named := ["unicode/utf8.first", "unicode/utf8.acceptRanges"], apart := false, laid := [("unicode/utf8.acceptRanges", laid_unicode_utf8_acceptRanges), ("unicode/utf8.first", laid_unicode_utf8_first)], narrowed := true }
def FnExactVtSizeUptoSaid : Prop := fnExactVtSizeUptoRow.holds Tryd.pinned (OpenSpec.upto fnExactVtSizeSpec)

/-- 'laws.FnExactRuneBegin', WHERE WHAT IT READS IS OF BULK AT MOST 1048576: true; the input reads as it did. -/
def fnExactRuneBeginUptoRow : OpenClaim := { program := "ytojalheohpkdoaadoor", sum := "3a0c55d86522a0afda3e988eb4db27aee4a61eb880230f72e08eec1efb9d7814", func := "loop.example/g00600/laws.FnExactRuneBegin", spec := "fnExactRuneBegin", named := ["unicode/utf8.first", "unicode/utf8.acceptRanges"], apart := false, laid := [("unicode/utf8.acceptRanges", laid_unicode_utf8_acceptRanges), ("unicode/utf8.first", laid_unicode_utf8_first)], narrowed := true }
def FnExactRuneBeginUptoSaid : Prop := fnExactRuneBeginUptoRow.holds Tryd.pinned (OpenSpec.upto fnExactRuneBeginSpec)

end Rows
end Go.Proofs.YtojalheohpkdoaaDoor
