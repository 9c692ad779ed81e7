/-
  The law FnExactEntriesOk over the contracts of its two functions.
-/
import Derived.Test.YtcmipfpblnbccaaEnsS
import Derived.Test.YtcmipfpblnbccaaEnsI
import Derived.Test.YtcmipfpblnbccaaLEntriesOk
namespace Go.Proofs.Ytcmipfpblnbccaa
open Go.RowKit
set_option linter.unusedVariables false

theorem entriesOk_law (v : Value) (d : List shEntry.D) (w : World) (hr : Reads (.sl shEntry) w [v] d) :
    Calls Try.prog 4 #[v] w fun e w' => e = .returned (.bool true) ∧ Below w.heap.size w w' :=
  entriesOk_over v d (entsB d) w hr (cntS_Entry d)
    (fun w' c G h hs => by
      obtain ⟨a, cp, rfl, _, _⟩ := reads_val h.reads
      exact specEnts_any _ _ _ _ w' h.reads)
    (fun w' c G h hs => by
      obtain ⟨a, cp, rfl, _, _⟩ := reads_val h.reads
      exact implEnts_any _ _ _ _ w' h.reads)

end Go.Proofs.Ytcmipfpblnbccaa
