/-
  The law FnExactNextNum over the contracts of its two functions.
-/
import Derived.Test.YtkfmpfbhhmmllaaNxt
import Derived.Test.YtkfmpfbhhmmllaaLNextNum
namespace Go.Proofs.Ytkfmpfbhhmmllaa
open Go.RowKit
set_option linter.unusedVariables false

theorem wd_Store : shStore.wd ≤ 100 := by decide

theorem cntV_Store (d : shStore.D) (h : shStore.sz d ≤ 1048576) : shStore.cntV d ≤ 1000000000 := by
  have h1 := shStore.cnt_le d
  have h2 := shStore.cntV_le d
  have h3 := wd_Store
  have h4 : shStore.wd * (shStore.sz d + 1) ≤ 100 * (1048576 + 1) := Nat.mul_le_mul h3 (by omega)
  omega

theorem nextNum_law (cs : List Value) (d : shStore.D) (w : World) (hr : Reads shStore w cs d) :
    Calls Try.prog 3 #[.agg cs.toArray] w fun e w' => e = .returned (.bool true) ∧ Below w.heap.size w w' :=
  nextNum_over cs d (nextA d.2.2.2.1) w hr (cntV_Store d) (fun w' c G h _ => specNext_any c d w' h.reads) (fun w' c G h _ => implNext_any c d w' h.reads)

end Go.Proofs.Ytkfmpfbhhmmllaa
