/-
  The law FnExactEntryOk over the contracts of its two functions.
-/
import Derived.Test.YtcmipfpblnbccaaEnt
import Derived.Test.YtcmipfpblnbccaaLEntryOk
namespace Go.Proofs.Ytcmipfpblnbccaa
open Go.RowKit
set_option linter.unusedVariables false

theorem wd_Entry : shEntry.wd = 2 := rfl

theorem cntV_Entry (d : shEntry.D) (h : shEntry.sz d ≤ 1048576) : shEntry.cntV d ≤ 1000000000 := by
  have h1 := shEntry.cnt_le d
  have h2 := shEntry.cntV_le d
  rw [wd_Entry] at h1
  omega

theorem entryOk_law (cs : List Value) (d : shEntry.D) (w : World) (hr : Reads shEntry w cs d) :
    Calls Try.prog 3 #[.agg cs.toArray] w fun e w' => e = .returned (.bool true) ∧ Below w.heap.size w w' :=
  entryOk_over cs d (entB d.1 (ByteArray.size d.2.1)) w hr (cntV_Entry d)
    (fun w' c G h hs => by
      obtain ⟨rfl, l1⟩ := open_Entry h.reads
      exact specEnt_any _ _ w' l1)
    (fun w' c G h hs => by
      obtain ⟨rfl, l1⟩ := open_Entry h.reads
      exact implEnt_any _ _ w' l1)

end Go.Proofs.Ytcmipfpblnbccaa
