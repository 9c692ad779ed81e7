/-
  The law FnExactEmitGoto over the contracts of its two functions.
-/
import Derived.Test.YtcchjcllkfaadaaDoorLEmitGoto
import Derived.Test.YtcchjcllkfaadaaDoorEmG
namespace Go.Proofs.YtcchjcllkfaadaaDoor
open Go.RowKit
set_option linter.unusedVariables false

theorem gPow : Tryd.prog.globalNamed "internal/strconv.uint64pow10" = some 0 := by kernel_rfl

theorem emitGoto_law (x y : Int) (w : World) (htab : Lib.TabIs Tryd.prog w "internal/strconv.uint64pow10" .u64 Lib.pow10Tab) :
    Calls Tryd.prog 3 #[.int .i64 x, .int .i64 y] w fun e w' => e = .returned (.bool true) ∧ Below w.heap.size w w' := by
  have hl := gotoZ_len x y
  refine emitGoto_over x y (gotoZ x y) w (by omega) (by rw [cnt_bytes]; omega) (fun w' hb => ?_) (fun w' hb => ?_)
  · refine (specGoto_any x y w').mono ?_
    rintro e w1 ⟨v, F, rfl, ho, _, hb⟩
    exact ⟨v, rfl, ho.reads, hb⟩
  · refine (implGoto_any x y w' (tab_later htab hb)).mono ?_
    rintro e w1 ⟨v, F, rfl, ho, hn, hb⟩
    exact ⟨v, F, rfl, ho, hn, hb⟩

end Go.Proofs.YtcchjcllkfaadaaDoor
