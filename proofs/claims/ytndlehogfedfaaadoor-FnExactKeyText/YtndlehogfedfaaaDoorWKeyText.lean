/-
  The law FnExactKeyText: KeyText of both sides is one.
-/
import Derived.Test.YtndlehogfedfaaaDoorTyKey
import Derived.Test.YtndlehogfedfaaaDoorKtI
import Derived.Test.YtndlehogfedfaaaDoorKtS
namespace Go.Proofs.YtndlehogfedfaaaDoor
open Go.RowKit
set_option linter.unusedVariables false

set_option maxHeartbeats 1000000 in
theorem keyText_law (cs : List Value) (d : shKey.D) (w : World) (hN : Nams w) (hr : Reads shKey w cs d) :
    Calls Tryd.prog 3 #[.agg cs.toArray] w fun e w' => e = .returned (.bool true) ∧ Below w.heap.size w w' := by
  obtain rfl := open_Key hr
  obtain ⟨k, hk⟩ : ∃ k : Int, k = d.1 := ⟨_, rfl⟩
  obtain ⟨r, hr⟩ : ∃ r : Int, r = d.2.1 := ⟨_, rfl⟩
  rw [← hk, ← hr]
  have qt : Hid (∀ w', Calls Tryd.prog 7 #[.agg #[.int .i64 k, .int .i64 r]] w' fun e w'' => e = .returned (.agg #[.int .i64 k, .int .i64 r]) ∧ Below w'.heap.size w' w'') := fun w' => toKey_c k r w'
  have qs : Hid (∀ w', Calls Tryd.prog 6 #[.agg #[.int .i64 k, .int .i64 r]] w' fun e w'' => e = .returned (.string (ktx k r)) ∧ Below w'.heap.size w' w'') := fun w' => specKt_any k r w'
  have qi : Hid (∀ w', Below w.heap.size w w' → Calls Tryd.prog 8 #[.agg #[.int .i64 k, .int .i64 r]] w' fun e w'' => e = .returned (.string (ktx k r)) ∧ Below w'.heap.size w' w'') := fun w' h => implKt_any k r w' (hN.later h)
  obtain ⟨B, hB⟩ : ∃ B, B = ktx k r := ⟨_, rfl⟩
  rw [← hB] at qs qi
  have hne : (B.toList == B.toList) = true := by simp
  clear hk hr hB hN
  go_enter Tryd.func3, Tryd.ntmps3
  go_wp2_with fail
  obtain ⟨W1, hW1⟩ : ∃ U, U = w.alloc (.cells #[.int .i64 k, .int .i64 r] 23) := ⟨_, rfl⟩
  have b1 : Below w.heap.size w W1 := by rw [hW1]; exact (Below.refl _ _).alloc (Nat.le_refl _) _
  have i1 : W1.heap[w.heap.size]? = some (.cells #[.int .i64 k, .int .i64 r] 23 (0, 0)) := by rw [hW1]; exact heap_alloc_new w _
  have z1 : W1.heap.size = w.heap.size + 1 := by rw [hW1]; simp
  have HI : Hid (∀ w', Below W1.heap.size W1 w' → w'.heap[w.heap.size]? = some (.cells #[.int .i64 k, .int .i64 r] 23 (0, 0))) := fun w' h => (h.block _ (by omega)).trans i1
  rw [← hW1]
  clear hW1
  refine (qt.out _).mono ?_
  rintro e w2 ⟨rfl, h2⟩
  go_wp2_with fail
  refine (qs.out _).mono ?_
  rintro e w3 ⟨rfl, h3⟩
  have h13 : Below W1.heap.size W1 w3 := h2.trans (h3.mono h2.size)
  have y0 : w3.cell? ⟨w.heap.size, 0, none⟩ = some (.int .i64 k) := box_cell (HI.out _ h13) rfl
  have y1 : w3.cell? ⟨w.heap.size, 1, none⟩ = some (.int .i64 r) := box_cell (HI.out _ h13) rfl
  clear h2 h3
  go_wp2_with fail
  clear y0 y1
  refine (qt.out _).mono ?_
  rintro e w4 ⟨rfl, h4⟩
  go_wp2_with fail
  have h14 : Below W1.heap.size W1 w4 := h13.trans (h4.mono h13.size)
  refine (qi.out _ (b1.trans (h14.mono b1.size))).mono ?_
  rintro e w5 ⟨rfl, h5⟩
  have h15 : Below w.heap.size w w5 := b1.trans ((h14.trans (h5.mono h14.size)).mono b1.size)
  clear h4 h5 h13 h14
  go_wp2
  go_ret
  exact ⟨rfl, h15⟩

end Go.Proofs.YtndlehogfedfaaaDoor
