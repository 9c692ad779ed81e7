/-
  The law FnExactTextKey: TextKey of both sides is one.
-/
import Derived.Test.YtndlehogfedfaaaDoorTkT
import Derived.Test.YtndlehogfedfaaaDoorTkS
import Derived.Test.YtndlehogfedfaaaDoorKtB
namespace Go.Proofs.YtndlehogfedfaaaDoor
open Go.RowKit
set_option linter.unusedVariables false

set_option maxHeartbeats 4000000 in
theorem textKey_in (s : ByteArray) (w : World) (hs : s.size ≤ 1048576) (hT : Tabs w) (hN : Nams w) (hB : NamB w) :
    Calls Tryd.prog 4 #[.string s] w fun e w' => e = .returned (.bool true) ∧ Below w.heap.size w w' := by
  have hm : s.size ≤ maxLen := by unfold maxLen; omega
  have qs : Hid (∀ w', Calls Tryd.prog 9 #[.string s] w' fun e w'' => ∃ k r b, e = .returned (.tuple #[.agg #[.int .i64 k, .int .i64 r], .bool b]) ∧ Below w'.heap.size w' w'' ∧ TkA s k r b) := fun w' => specTk_any s w' hs
  have qi : Hid (∀ w', Below w.heap.size w w' → Calls Tryd.prog 10 #[.string s] w' fun e w'' => ∃ k r b, e = .returned (.tuple #[.agg #[.int .i64 k, .int .i64 r], .bool b]) ∧ Below w'.heap.size w' w'' ∧ TkA s k r b) := fun w' h => implTk_any s w' hm (hT.later h) (hN.later h) (hB.later h)
  have qe : Hid (∀ k r w', Calls Tryd.prog 11 #[.agg #[.int .i64 k, .int .i64 r], .agg #[.int .i64 k, .int .i64 r]] w' fun e w'' => e = .returned (.bool true) ∧ Below w'.heap.size w' w'') := fun k r w' => by
    have := eqKey_c k r k r w'
    rw [decide_eq_true ⟨rfl, rfl⟩] at this
    exact this
  have hlt : ¬ (s.size : Int) > 1048576 := by omega
  clear hm hs hT hN hB
  go_enter Tryd.func4, Tryd.ntmps4
  go_wp2_with fail
  refine (qs.out _).mono ?_
  rintro e w1 ⟨k, r, b, rfl, h1, hA⟩
  have HA : Hid (TkA s k r b) := hA
  clear hA
  go_wp2_with fail
  obtain ⟨W1, hW1⟩ : ∃ U, U = w1.alloc (.cells #[.int .i64 k, .int .i64 r] 25) := ⟨_, rfl⟩
  have b1 : Below w.heap.size w W1 := by rw [hW1]; exact h1.alloc h1.size _
  have i1 : W1.heap[w1.heap.size]? = some (.cells #[.int .i64 k, .int .i64 r] 25 (0, 0)) := by rw [hW1]; exact heap_alloc_new w1 _
  have z1 : W1.heap.size = w1.heap.size + 1 := by rw [hW1]; simp
  have HI : Hid (∀ w', Below W1.heap.size W1 w' → w'.heap[w1.heap.size]? = some (.cells #[.int .i64 k, .int .i64 r] 25 (0, 0))) := fun w' h => (h.block _ (by omega)).trans i1
  rw [← hW1]
  clear hW1 h1
  refine (qi.out _ b1).mono ?_
  rintro e w2 ⟨k2, r2, b2, rfl, h2, hA2⟩
  obtain ⟨rfl, rfl, rfl⟩ := tk_same HA.out hA2
  have hz2 := h2.size
  have zl1 : w1.heap.size < w2.heap.size := by omega
  have y0 : w2.cell? ⟨w1.heap.size, 0, none⟩ = some (.int .i64 k) := box_cell (HI.out _ h2) rfl
  have y1 : w2.cell? ⟨w1.heap.size, 1, none⟩ = some (.int .i64 r) := box_cell (HI.out _ h2) rfl
  have HB : Hid (Below w.heap.size w (w2.alloc (.cells #[.int .i64 k, .int .i64 r] 25))) := b1.trans ((h2.alloc h2.size _).mono b1.size)
  have hbb : (b != b) = false := by cases b <;> rfl
  clear h2 b1 i1 z1 HI hA2
  go_wp2_with fail
  refine (qe.out k r _).mono ?_
  rintro e w3 ⟨rfl, h3⟩
  have h03 : Below w.heap.size w w3 := HB.out.trans (h3.mono HB.out.size)
  clear h3 y0 y1
  go_wp2
  go_ret
  exact ⟨rfl, h03⟩

theorem textKey_law (s : ByteArray) (w : World) (hT : Tabs w) (hN : Nams w) (hB : NamB w) :
    Calls Tryd.prog 4 #[.string s] w fun e w' => e = .returned (.bool true) ∧ Below w.heap.size w w' := by
  by_cases hs : s.size ≤ 1048576
  · exact textKey_in s w hs hT hN hB
  · have hlt : (s.size : Int) > 1048576 := by omega
    go_enter Tryd.func4, Tryd.ntmps4
    go_wp2
    go_ret
    exact ⟨rfl, Below.refl _ _⟩

end Go.Proofs.YtndlehogfedfaaaDoor
