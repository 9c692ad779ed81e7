/-
  NARROWER THAN 'FOR EVERY INPUT', by the rows' own cells (each row's printed sentence says how): FnExactKeyText: laid · FnExactTextKey: laid · FnExactKeyBytes: laid.
  DERIVED. THE GIVEN ROWS OF THIS SEAT. 3 by the template 'for every input the law returns true; each argument reads behind the call as it read before'; 0 by the template 'total and deterministic' (their statements: YtndlehogfedfaaaDoorTotals.lean).
  GIVEN WITH THE SEED: the statements are not yours to turn. If you find one false, say at which input.
  Laid BY PROGRAM, IN A SANDBOX (cutbox-rows.mjs): the forced cells as the released guide's own fill.sh prints them over the translation ee4ce02a88b3dd45… (all of the seat's roots in one cut). By AI agents, Wed Nov 11 2026. No macro, syntax, notation, axiom, sorry.
-/
import Derived.Test.YtndlehogfedfaaaDoorChecked
import GoSem.PinnedTables
import GoSem.Claim
import GoSem.ClaimJoined
import GoSem.ClaimMapViews
import Derived.JoinedTies
import Derived.KernelRfl
namespace Go.Proofs.YtndlehogfedfaaaDoor
/- THE CELL 'sum', in the pinned program and in every row, IS THE sha256 OF THE DUMP (.gsa) THAT YtndlehogfedfaaaDoorProg.lean LOADS. Nothing in Lean hashes anything: it is a label: what it is worth is what the hold of that sum in a sandbox is worth. -/
noncomputable def Tryd.pinned : Pinned := { name := "ytndlehogfedfaaadoor", sum := "ee4ce02a88b3dd45c1a6d75a6dddd399492d0d120ab7f365071ee1fb57975f07", checked := Tryd.checked }
namespace Rows
def none {H : Type} : Left H := { results := [], args := [] }

/- WHAT THE LISTED PACKAGE-LEVEL VARIABLES READ AS WHEN THE CALL BEGINS. Each datum BY PROGRAM (the guide's laid-datum.mjs) off the statement by which the dump's own 'gosem.cut.vars' lays the variable. In a bare row this is a premise. The card (YtndlehogfedfaaaDoorCards.lean) ties it to the program's text. -/
def laid_loop_example_g00600_impl_namedKeys {H : Type} : DataW H := .agg [.agg [.lit (.string [69, 78, 84, 69, 82]), .lit (.string [13])], .agg [.lit (.string [66, 65, 67, 75]), .lit (.string [127])], .agg [.lit (.string [84, 65, 66]), .lit (.string [9])], .agg [.lit (.string [69, 83, 67]), .lit (.string [27])], .agg [.lit (.string [85, 80]), .lit (.string [27, 91, 65])], .agg [.lit (.string [68, 79, 87, 78]), .lit (.string [27, 91, 66])], .agg [.lit (.string [82, 73, 71, 72, 84]), .lit (.string [27, 91, 67])], .agg [.lit (.string [76, 69, 70, 84]), .lit (.string [27, 91, 68])], .agg [.lit (.string [72, 79, 77, 69]), .lit (.string [27, 91, 72])], .agg [.lit (.string [69, 78, 68]), .lit (.string [27, 91, 70])], .agg [.lit (.string [68, 69, 76, 69, 84, 69]), .lit (.string [27, 91, 51, 126])], .agg [.lit (.string [77, 66, 65, 67, 75]), .lit (.string [27, 127])], .agg [.lit (.string [66, 65, 68]), .lit (.string [0])]]
def laid_unicode_utf8_acceptRanges {H : Type} : DataW H := .agg [.agg [.lit (.int .u8 128), .lit (.int .u8 191)], .agg [.lit (.int .u8 160), .lit (.int .u8 191)], .agg [.lit (.int .u8 128), .lit (.int .u8 159)], .agg [.lit (.int .u8 144), .lit (.int .u8 191)], .agg [.lit (.int .u8 128), .lit (.int .u8 143)], .agg [.lit (.int .u8 0), .lit (.int .u8 0)], .agg [.lit (.int .u8 0), .lit (.int .u8 0)], .agg [.lit (.int .u8 0), .lit (.int .u8 0)], .agg [.lit (.int .u8 0), .lit (.int .u8 0)], .agg [.lit (.int .u8 0), .lit (.int .u8 0)], .agg [.lit (.int .u8 0), .lit (.int .u8 0)], .agg [.lit (.int .u8 0), .lit (.int .u8 0)], .agg [.lit (.int .u8 0), .lit (.int .u8 0)], .agg [.lit (.int .u8 0), .lit (.int .u8 0)], .agg [.lit (.int .u8 0), .lit (.int .u8 0)], .agg [.lit (.int .u8 0), .lit (.int .u8 0)]]
/-- One of Go's own tables, pinned by name: the form's constant. -/
def laid_unicode_utf8_first : DataW Unit := Go.Pinned.utf8First

/-- 'laws.FnExactKeyText': WHATEVER THE INPUT: true; the input reads as it did. -/
def fnExactKeyTextSpec : ChangeSpec := { name := "fnExactKeyText", vars := ["loop.example/g00600/impl.namedKeys"], fn := fun _ => fun
  | [d, g1] => { results := [.lit (.bool true)], args := [d], vars := [g1] }
  | _ => none }
def fnExactKeyTextRow : OpenClaim := { program := "ytndlehogfedfaaadoor", sum := "ee4ce02a88b3dd45c1a6d75a6dddd399492d0d120ab7f365071ee1fb57975f07", func := "loop.example/g00600/laws.FnExactKeyText", spec := "fnExactKeyText", named := ["loop.example/g00600/impl.namedKeys"], apart := false, laid := [("loop.example/g00600/impl.namedKeys", laid_loop_example_g00600_impl_namedKeys)] }
def FnExactKeyTextSaid : Prop := fnExactKeyTextRow.holds Tryd.pinned (OpenSpec.ofChange fnExactKeyTextSpec)

/-- ITS FALSE NEIGHBOUR: 'it returns false'. Refute it at one input. -/
def fnExactKeyTextWrong : ChangeSpec := { name := "fnExactKeyText", vars := ["loop.example/g00600/impl.namedKeys"], fn := fun _ => fun
  | [d, g1] => { results := [.lit (.bool false)], args := [d], vars := [g1] }
  | _ => none }
def FnExactKeyTextWrongFalsely : Prop := fnExactKeyTextRow.holds Tryd.pinned (OpenSpec.ofChange fnExactKeyTextWrong)

/-- 'laws.FnExactTextKey': WHATEVER THE INPUT: true; the input reads as it did. -/
def fnExactTextKeySpec : ChangeSpec := { name := "fnExactTextKey", vars := ["loop.example/g00600/impl.namedKeys"], fn := fun _ => fun
  | [d, g1] => { results := [.lit (.bool true)], args := [d], vars := [g1] }
  | _ => none }
def fnExactTextKeyRow : OpenClaim := { program := "ytndlehogfedfaaadoor", sum := "ee4ce02a88b3dd45c1a6d75a6dddd399492d0d120ab7f365071ee1fb57975f07", func := "loop.example/g00600/laws.FnExactTextKey", spec := "fnExactTextKey", named := ["loop.example/g00600/impl.namedKeys", "unicode/utf8.first", "unicode/utf8.acceptRanges"], apart := false, laid := [("unicode/utf8.acceptRanges", laid_unicode_utf8_acceptRanges), ("loop.example/g00600/impl.namedKeys", laid_loop_example_g00600_impl_namedKeys), ("unicode/utf8.first", laid_unicode_utf8_first)] }
def FnExactTextKeySaid : Prop := fnExactTextKeyRow.holds Tryd.pinned (OpenSpec.ofChange fnExactTextKeySpec)

/-- ITS FALSE NEIGHBOUR: 'it returns false'. Refute it at one input. -/
def fnExactTextKeyWrong : ChangeSpec := { name := "fnExactTextKey", vars := ["loop.example/g00600/impl.namedKeys"], fn := fun _ => fun
  | [d, g1] => { results := [.lit (.bool false)], args := [d], vars := [g1] }
  | _ => none }
def FnExactTextKeyWrongFalsely : Prop := fnExactTextKeyRow.holds Tryd.pinned (OpenSpec.ofChange fnExactTextKeyWrong)

/-- 'laws.FnExactKeyBytes': WHATEVER THE INPUT: true; the input reads as it did. -/
def fnExactKeyBytesSpec : ChangeSpec := { name := "fnExactKeyBytes", vars := ["loop.example/g00600/impl.namedKeys"], fn := fun _ => fun
  | [d, g1] => { results := [.lit (.bool true)], args := [d], vars := [g1] }
  | _ => none }
def fnExactKeyBytesRow : OpenClaim := { program := "ytndlehogfedfaaadoor", sum := "ee4ce02a88b3dd45c1a6d75a6dddd399492d0d120ab7f365071ee1fb57975f07", func := "loop.example/g00600/laws.FnExactKeyBytes", spec := "fnExactKeyBytes", named := ["loop.example/g00600/impl.namedKeys"], apart := false, laid := [("loop.example/g00600/impl.namedKeys", laid_loop_example_g00600_impl_namedKeys)] }
def FnExactKeyBytesSaid : Prop := fnExactKeyBytesRow.holds Tryd.pinned (OpenSpec.ofChange fnExactKeyBytesSpec)

/-- ITS FALSE NEIGHBOUR: 'it returns false'. Refute it at one input. -/
def fnExactKeyBytesWrong : ChangeSpec := { name := "fnExactKeyBytes", vars := ["loop.example/g00600/impl.namedKeys"], fn := fun _ => fun
  | [d, g1] => { results := [.lit (.bool false)], args := [d], vars := [g1] }
  | _ => none }
def FnExactKeyBytesWrongFalsely : Prop := fnExactKeyBytesRow.holds Tryd.pinned (OpenSpec.ofChange fnExactKeyBytesWrong)

/- THE SECOND FORM. 'bulk': how many values and letters a reading holds, each counted each time it is reached (what is shared counts as often as it is met; a slice's spare places count too). A statement '..UptoSaid' is the law's where the arguments, and the package variables that the reading takes, are together of bulk at most 1048576: NARROWER than '..Said'. Prove '..Said' where nothing that the law and all that it calls make is longer than what came in: it says more and counts as full. Else prove '..UptoSaid'. A law counts once. -/
mutual
def uptoBulk {H : Type} : DataW H → Nat
  | .lit (.string bytes) => bytes.length + 1
  | .lit _ => 1
  | .nil => 1
  | .ptr d => uptoBulk d + 1
  | .slice elems spare => uptoBulkAll elems + uptoBulkAll spare + 1
  | .agg parts => uptoBulkAll parts + 1
  | .iface _ d => uptoBulk d + 1
  | .map entries => uptoBulkEntries entries + 1
  | .held _ => 1
def uptoBulkAll {H : Type} : List (DataW H) → Nat
  | [] => 0
  | d :: r => uptoBulk d + uptoBulkAll r
def uptoBulkEntries {H : Type} : List (Lit × DataW H) → Nat
  | [] => 0
  | x :: r => uptoBulkEntry x + uptoBulkEntries r
def uptoBulkEntry {H : Type} : Lit × DataW H → Nat
  | (.string bytes, d) => bytes.length + uptoBulk d + 1
  | (_, d) => uptoBulk d + 1
 end
def uptoSmall : (H : Type) → List (DataW H) → Bool := fun _ ds => decide (uptoBulkAll ds ≤ 1048576)
def OpenSpec.upto (s : _root_.Go.ChangeSpec) : _root_.Go.OpenSpec := { _root_.Go.OpenSpec.ofChange s with cond := some uptoSmall }

/-- 'laws.FnExactKeyText', WHERE WHAT IT READS IS OF BULK AT MOST 1048576: true; the input reads as it did. -/
def fnExactKeyTextUptoRow : OpenClaim := { program := "ytndlehogfedfaaadoor", sum := "ee4ce02a88b3dd45c1a6d75a6dddd399492d0d120ab7f365071ee1fb57975f07", func := "loop.example/g00600/laws.FnExactKeyText", spec := "fnExactKeyText", named := ["loop.example/g00600/impl.namedKeys"], apart := false, laid := [("loop.example/g00600/impl.namedKeys", laid_loop_example_g00600_impl_namedKeys)], narrowed := true }
def FnExactKeyTextUptoSaid : Prop := fnExactKeyTextUptoRow.holds Tryd.pinned (OpenSpec.upto fnExactKeyTextSpec)

/-- 'laws.FnExactTextKey', WHERE WHAT IT READS IS OF BULK AT MOST 1048576: true; the input reads as it did. -/
def fnExactTextKeyUptoRow : OpenClaim := { program := "ytndlehogfedfaaadoor", sum := "ee4ce02a88b3dd45c1a6d75a6dddd399492d0d120ab7f365071ee1fb57975f07", func := "loop.example/g00600/laws.FnExactTextKey", spec := "fnExactTextKey", named := ["loop.example/g00600/impl.namedKeys", "unicode/utf8.first", "unicode/utf8.acceptRanges"], apart := false, laid := [("unicode/utf8.acceptRanges", laid_unicode_utf8_acceptRanges), ("loop.example/g00600/impl.namedKeys", laid_loop_example_g00600_impl_namedKeys), ("unicode/utf8.first", laid_unicode_utf8_first)], narrowed := true }
def FnExactTextKeyUptoSaid : Prop := fnExactTextKeyUptoRow.holds Tryd.pinned (OpenSpec.upto fnExactTextKeySpec)

/-- 'laws.FnExactKeyBytes', WHERE WHAT IT READS IS OF BULK AT MOST 1048576: true; the input reads as it did. -/
def fnExactKeyBytesUptoRow : OpenClaim := { program := "ytndlehogfedfaaadoor", sum := "ee4ce02a88b3dd45c1a6d75a6dddd399492d0d120ab7f365071ee1fb57975f07", func := "loop.example/g00600/laws.FnExactKeyBytes", spec := "fnExactKeyBytes", named := ["loop.example/g00600/impl.namedKeys"], apart := false, laid := [("loop.example/g00600/impl.namedKeys", laid_loop_example_g00600_impl_namedKeys)], narrowed := true }
def FnExactKeyBytesUptoSaid : Prop := fnExactKeyBytesUptoRow.holds Tryd.pinned (OpenSpec.upto fnExactKeyBytesSpec)

end Rows
end Go.Proofs.YtndlehogfedfaaaDoor
