/-
  No cell of these rows narrows 'for every input' (looked for: loops, veiled, ifaces, maps, wideKeys, modest, calm, conditions, laid).
  DERIVED. THE GIVEN ROWS OF THIS SEAT. 3 by the template 'for every input the law returns true; each argument reads behind the call as it read before'; 0 by the template 'total and deterministic' (their statements: YtbomhehoadbehaaTotals.lean).
  GIVEN WITH THE SEED: the statements are not yours to turn. If you find one false, say at which input.
  Laid BY PROGRAM, IN A SANDBOX (cutbox-rows.mjs): the forced cells as the released guide's own fill.sh prints them over the translation f48095dac9903915… (all of the seat's roots in one cut). By AI agents, Wed Nov 11 2026. No macro, syntax, notation, axiom, sorry.
-/
import Derived.Test.YtbomhehoadbehaaChecked
import GoSem.Claim
import GoSem.ClaimJoined
import GoSem.ClaimMapViews
import Derived.JoinedTies
import Derived.KernelRfl
namespace Go.Proofs.Ytbomhehoadbehaa
/- THE CELL 'sum', in the pinned program and in every row, IS THE sha256 OF THE DUMP (.gsa) THAT YtbomhehoadbehaaProg.lean LOADS. Nothing in Lean hashes anything: it is a label: what it is worth is what the hold of that sum in a sandbox is worth. -/
noncomputable def Try.pinned : Pinned := { name := "ytbomhehoadbehaa", sum := "f48095dac99039157f4586cd4aa41cc756af91fc1b1551a4f407cb62489aae8d", checked := Try.checked }
namespace Rows
def none {H : Type} : Left H := { results := [], args := [] }

/-- 'laws.FnExactGridScroll': WHATEVER THE INPUT: true; the input reads as it did. -/
def fnExactGridScrollSpec : ChangeSpec := { name := "fnExactGridScroll", fn := fun _ => fun
  | [d] => { results := [.lit (.bool true)], args := [d] }
  | _ => none }
def fnExactGridScrollRow : OpenClaim := { program := "ytbomhehoadbehaa", sum := "f48095dac99039157f4586cd4aa41cc756af91fc1b1551a4f407cb62489aae8d", func := "loop.example/g00600/laws.FnExactGridScroll", spec := "fnExactGridScroll", apart := false }
def FnExactGridScrollSaid : Prop := fnExactGridScrollRow.holds Try.pinned (OpenSpec.ofChange fnExactGridScrollSpec)

/-- ITS FALSE NEIGHBOUR: 'it returns false'. Refute it at one input. -/
def fnExactGridScrollWrong : ChangeSpec := { name := "fnExactGridScroll", fn := fun _ => fun
  | [d] => { results := [.lit (.bool false)], args := [d] }
  | _ => none }
def FnExactGridScrollWrongFalsely : Prop := fnExactGridScrollRow.holds Try.pinned (OpenSpec.ofChange fnExactGridScrollWrong)

/-- 'laws.FnExactGridClear': WHATEVER THE INPUT: true; the input reads as it did. -/
def fnExactGridClearSpec : ChangeSpec := { name := "fnExactGridClear", fn := fun _ => fun
  | [d1, d2, d3] => { results := [.lit (.bool true)], args := [d1, d2, d3] }
  | _ => none }
def fnExactGridClearRow : OpenClaim := { program := "ytbomhehoadbehaa", sum := "f48095dac99039157f4586cd4aa41cc756af91fc1b1551a4f407cb62489aae8d", func := "loop.example/g00600/laws.FnExactGridClear", spec := "fnExactGridClear", apart := false }
def FnExactGridClearSaid : Prop := fnExactGridClearRow.holds Try.pinned (OpenSpec.ofChange fnExactGridClearSpec)

/-- ITS FALSE NEIGHBOUR: 'it returns false'. Refute it at one input. -/
def fnExactGridClearWrong : ChangeSpec := { name := "fnExactGridClear", fn := fun _ => fun
  | [d1, d2, d3] => { results := [.lit (.bool false)], args := [d1, d2, d3] }
  | _ => none }
def FnExactGridClearWrongFalsely : Prop := fnExactGridClearRow.holds Try.pinned (OpenSpec.ofChange fnExactGridClearWrong)

/-- 'laws.FnExactGridPut': WHATEVER THE INPUT: true; the input reads as it did. -/
def fnExactGridPutSpec : ChangeSpec := { name := "fnExactGridPut", fn := fun _ => fun
  | [d1, d2] => { results := [.lit (.bool true)], args := [d1, d2] }
  | _ => none }
def fnExactGridPutRow : OpenClaim := { program := "ytbomhehoadbehaa", sum := "f48095dac99039157f4586cd4aa41cc756af91fc1b1551a4f407cb62489aae8d", func := "loop.example/g00600/laws.FnExactGridPut", spec := "fnExactGridPut", apart := false }
def FnExactGridPutSaid : Prop := fnExactGridPutRow.holds Try.pinned (OpenSpec.ofChange fnExactGridPutSpec)

/-- ITS FALSE NEIGHBOUR: 'it returns false'. Refute it at one input. -/
def fnExactGridPutWrong : ChangeSpec := { name := "fnExactGridPut", fn := fun _ => fun
  | [d1, d2] => { results := [.lit (.bool false)], args := [d1, d2] }
  | _ => none }
def FnExactGridPutWrongFalsely : Prop := fnExactGridPutRow.holds Try.pinned (OpenSpec.ofChange fnExactGridPutWrong)

/- THE SECOND FORM. 'bulk': how many values and letters a reading holds, each counted each time it is reached (what is shared counts as often as it is met; a slice's spare places count too). A statement '..UptoSaid' is the law's where the arguments, and the package variables that the reading takes, are together of bulk at most 1048576: NARROWER than '..Said'. Prove '..Said' where nothing that the law and all that it calls make is longer than what came in: it says more and counts as full. Else prove '..UptoSaid'. A law counts once. -/
mutual
def uptoBulk {H : Type} : DataW H → Nat
  | .lit (.string bytes) => bytes.length + 1
  | .lit _ => 1
  | .nil => 1
  | .ptr d => uptoBulk d + 1
  | .slice elems spare => uptoBulkAll elems + uptoBulkAll spare + 1
  | .agg parts => uptoBulkAll parts + 1
  | .iface _ d => uptoBulk d + 1
  | .map entries => uptoBulkEntries entries + 1
  | .held _ => 1
def uptoBulkAll {H : Type} : List (DataW H) → Nat
  | [] => 0
  | d :: r => uptoBulk d + uptoBulkAll r
def uptoBulkEntries {H : Type} : List (Lit × DataW H) → Nat
  | [] => 0
  | x :: r => uptoBulkEntry x + uptoBulkEntries r
def uptoBulkEntry {H : Type} : Lit × DataW H → Nat
  | (.string bytes, d) => bytes.length + uptoBulk d + 1
  | (_, d) => uptoBulk d + 1
 end
def uptoSmall : (H : Type) → List (DataW H) → Bool := fun _ ds => decide (uptoBulkAll ds ≤ 1048576)
def OpenSpec.upto (s : _root_.Go.ChangeSpec) : _root_.Go.OpenSpec := { _root_.Go.OpenSpec.ofChange s with cond := some uptoSmall }

/-- 'laws.FnExactGridScroll', WHERE WHAT IT READS IS OF BULK AT MOST 1048576: true; the input reads as it did. -/
def fnExactGridScrollUptoRow : OpenClaim := { program := "ytbomhehoadbehaa", sum := "f48095dac99039157f4586cd4aa41cc756af91fc1b1551a4f407cb62489aae8d", func := "loop.example/g00600/laws.FnExactGridScroll", spec := "fnExactGridScroll", apart := false, narrowed := true }
def FnExactGridScrollUptoSaid : Prop := fnExactGridScrollUptoRow.holds Try.pinned (OpenSpec.upto fnExactGridScrollSpec)

/-- 'laws.FnExactGridClear', WHERE WHAT IT READS IS OF BULK AT MOST 1048576: true; the input reads as it did. -/
def fnExactGridClearUptoRow : OpenClaim := { program := "ytbomhehoadbehaa", sum := "f48095dac99039157f4586cd4aa41cc756af91fc1b1551a4f407cb62489aae8d", func := "loop.example/g00600/laws.FnExactGridClear", spec := "fnExactGridClear", apart := false, narrowed := true }
def FnExactGridClearUptoSaid : Prop := fnExactGridClearUptoRow.holds Try.pinned (OpenSpec.upto fnExactGridClearSpec)

/-- 'laws.FnExactGridPut', WHERE WHAT IT READS IS OF BULK AT MOST 1048576: true; the input reads as it did. -/
def fnExactGridPutUptoRow : OpenClaim := { program := "ytbomhehoadbehaa", sum := "f48095dac99039157f4586cd4aa41cc756af91fc1b1551a4f407cb62489aae8d", func := "loop.example/g00600/laws.FnExactGridPut", spec := "fnExactGridPut", apart := false, narrowed := true }
def FnExactGridPutUptoSaid : Prop := fnExactGridPutUptoRow.holds Try.pinned (OpenSpec.upto fnExactGridPutSpec)

end Rows
end Go.Proofs.Ytbomhehoadbehaa
