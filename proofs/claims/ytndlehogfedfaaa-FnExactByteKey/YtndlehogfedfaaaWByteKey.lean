/-
  The law FnExactByteKey: ByteKey of both sides is one.
-/
import Derived.Test.YtndlehogfedfaaaKb
import Derived.Test.YtndlehogfedfaaaOwnD
namespace Go.Proofs.Ytndlehogfedfaaa
open Go.RowKit
set_option linter.unusedVariables false

set_option maxHeartbeats 1000000 in
theorem byteKey_law (b : Int) (hb : (Lit.int .i64 b).wf = true) (w : World) :
    Calls Try.prog 4 #[.int .i64 b] w fun e w' => e = .returned (.bool true) ∧ Below w.heap.size w w' := by
  obtain ⟨k, hk⟩ : ∃ k : Int, k = (bk b).1 := ⟨_, rfl⟩
  obtain ⟨r, hr⟩ : ∃ r : Int, r = (bk b).2 := ⟨_, rfl⟩
  have qs : Hid (∀ w', Calls Try.prog 8 #[.int .i64 b] w' fun e w'' => e = .returned (.agg #[.int .i64 k, .int .i64 r]) ∧ Below w'.heap.size w' w'') := fun w' => by rw [hk, hr]; exact specBk_any b hb w'
  have qi : Hid (∀ w', Calls Try.prog 9 #[.int .i64 b] w' fun e w'' => e = .returned (.agg #[.int .i64 k, .int .i64 r]) ∧ Below w'.heap.size w' w'') := fun w' => by rw [hk, hr]; exact implBk_any b hb w'
  have qe : Hid (∀ w', Calls Try.prog 10 #[.agg #[.int .i64 k, .int .i64 r], .agg #[.int .i64 k, .int .i64 r]] w' fun e w'' => e = .returned (.bool true) ∧ Below w'.heap.size w' w'') := fun w' => by
    have := eqKey_c k r k r w'
    rw [decide_eq_true ⟨rfl, rfl⟩] at this
    exact this
  clear hk hr hb
  go_enter Try.func4, Try.ntmps4
  go_wp2_with fail
  refine (qs.out _).mono ?_
  rintro e w1 ⟨rfl, h1⟩
  go_wp2_with fail
  obtain ⟨W1, hW1⟩ : ∃ U, U = w1.alloc (.cells #[.int .i64 k, .int .i64 r] 25) := ⟨_, rfl⟩
  have b1 : Below w.heap.size w W1 := by rw [hW1]; exact h1.alloc h1.size _
  have i1 : W1.heap[w1.heap.size]? = some (.cells #[.int .i64 k, .int .i64 r] 25 (0, 0)) := by rw [hW1]; exact heap_alloc_new w1 _
  have z1 : W1.heap.size = w1.heap.size + 1 := by rw [hW1]; simp
  have HI : Hid (∀ w', Below W1.heap.size W1 w' → w'.heap[w1.heap.size]? = some (.cells #[.int .i64 k, .int .i64 r] 25 (0, 0))) := fun w' h => (h.block _ (by omega)).trans i1
  rw [← hW1]
  clear hW1 h1
  refine (qi.out _).mono ?_
  rintro e w2 ⟨rfl, h2⟩
  have hz2 := h2.size
  have zl1 : w1.heap.size < w2.heap.size := by omega
  have y0 : w2.cell? ⟨w1.heap.size, 0, none⟩ = some (.int .i64 k) := box_cell (HI.out _ h2) rfl
  have y1 : w2.cell? ⟨w1.heap.size, 1, none⟩ = some (.int .i64 r) := box_cell (HI.out _ h2) rfl
  have HB : Hid (Below w.heap.size w (w2.alloc (.cells #[.int .i64 k, .int .i64 r] 25))) := b1.trans ((h2.alloc h2.size _).mono b1.size)
  clear h2 b1 i1 z1 HI
  go_wp2_with fail
  refine (qe.out _).mono ?_
  rintro e w3 ⟨rfl, h3⟩
  have h03 : Below w.heap.size w w3 := HB.out.trans (h3.mono HB.out.size)
  clear h3 y0 y1
  go_wp2
  go_ret
  exact ⟨rfl, h03⟩

end Go.Proofs.Ytndlehogfedfaaa
