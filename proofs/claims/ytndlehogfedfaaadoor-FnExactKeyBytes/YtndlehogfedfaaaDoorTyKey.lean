/-
  The type Key of the laws: its shape, and what szKey, toKey, eqKey and those of its slices do. By program (tygen.py).
-/
import Derived.Test.YtndlehogfedfaaaDoorTyBase
import Derived.Handy
import Derived.Deep.RegionHeld3
namespace Go.Proofs.YtndlehogfedfaaaDoor
open Go.RowKit
set_option linter.unusedVariables false

def shKey : Sh := Sh.ofL [.int, .int]

theorem open_Key {w : World} {cs : List Value} {d : shKey.D} (h : Reads shKey w cs d) :
    cs = [.int .i64 (d.1), .int .i64 (d.2.1)] := by
  obtain ⟨_, _, rfl, h0, _, _, rfl, h1, hE⟩ := h
  have e0 : _ = _ := h0
  have e1 : _ = _ := h1
  have eE : _ = _ := hE
  subst e0 e1 eE
  exact rfl

theorem own_Key {w : World} {B : Nat} {d : shKey.D} :
    Own shKey w B [.int .i64 (d.1), .int .i64 (d.2.1)] d ([]) := by
  exact ⟨[_], _, [], [], rfl, rfl, ⟨rfl, rfl⟩, ⟨[_], _, [], [], rfl, rfl, ⟨rfl, rfl⟩, ⟨rfl, rfl⟩⟩⟩

theorem size_Key : shKey.size = 2 := rfl

theorem sz_Key (d : shKey.D) : shKey.sz d = 0 := by
  show 0 + (0 + (0)) = _
  omega

theorem opens_Key {H : Type} {enc : TypeId × Value → H} {w : World} {spare : Nat → Bool} {held : Bool} : Opens enc Tryd.prog w spare held 23 shKey := by
  refine opens_struct [.int, .int] Tryd.underlying23 (by kernel_rfl) (fun i s hi => ?_)
  match i, hi with
  | 0, hi => obtain rfl := Option.some.inj hi; exact ⟨_, rfl, opens_int Tryd.underlying3 (by kernel_rfl), rfl⟩
  | 1, hi => obtain rfl := Option.some.inj hi; exact ⟨_, rfl, opens_int Tryd.underlying3 (by kernel_rfl), rfl⟩
  | n + 2, hi => simp at hi

set_option maxRecDepth 100000 in
set_option maxHeartbeats 1000000 in
theorem toKey_any (cs : List Value) (d : shKey.D) (w : World) (hr : Reads shKey w cs d) (hs : shKey.sz d ≤ 1048576) :
    Calls Tryd.prog 7 #[.agg cs.toArray] w fun e w' => ∃ cs' F, e = .returned (.agg cs'.toArray) ∧ Own shKey w' w.heap.size cs' d F ∧ F.Nodup ∧ Below w.heap.size w w' := by
  obtain ⟨rfl⟩ := open_Key hr
  obtain ⟨x0, e0⟩ : ∃ x : Int, x = d.1 := ⟨_, rfl⟩
  obtain ⟨x1, e1⟩ : ∃ x : Int, x = d.2.1 := ⟨_, rfl⟩

  rw [sz_Key] at hs
  rw [← e0, ← e1]
  have HE : Hid (x0 = d.1 ∧ x1 = d.2.1 ∧ True) := ⟨e0, e1, trivial⟩
  clear hr hs e0 e1
  go_enter Tryd.func7, Tryd.ntmps7
  go_wp2
  go_returns
  refine ⟨[.int .i64 x0, .int .i64 x1], [], rfl, ?_, List.nodup_nil, (((Below.refl _ _).alloc (Nat.le_refl _) _).alloc (by simp) _).alloc (by simp; omega) _⟩
  have := fun w' => own_Key (w := w') (B := w.heap.size) (d := d)
  simp only [← HE.out.1, ← HE.out.2.1] at this
  exact this _

theorem infoKey : (Tryd.prog.info? 25).map (fun i => (i.zero, i.size, i.bytes)) = some (some (.agg #[.int .i64 0, .int .i64 0]), 2, 16) := by kernel_rfl

set_option maxRecDepth 100000 in
set_option maxHeartbeats 1000000 in
theorem eqKey_any (cs1 cs2 : List Value) (d : shKey.D) (w : World) (hr : Reads shKey w cs1 d) (hq : Reads shKey w cs2 d) (hs : shKey.sz d ≤ 1048576) :
    Calls Tryd.prog 11 #[.agg cs1.toArray, .agg cs2.toArray] w fun e w' => e = .returned (.bool true) ∧ Below w.heap.size w w' := by
  obtain ⟨rfl⟩ := open_Key hr
  obtain ⟨rfl⟩ := open_Key hq
  obtain ⟨x0, e0⟩ : ∃ x : Int, x = d.1 := ⟨_, rfl⟩
  obtain ⟨x1, e1⟩ : ∃ x : Int, x = d.2.1 := ⟨_, rfl⟩

  rw [sz_Key] at hs
  rw [← e0, ← e1]
  have ne0 : (x0 != x0) = false := by simp
  have ne1 : (x1 != x1) = false := by simp
  clear hr hq hs e0 e1
  obtain ⟨W0, hW0⟩ : ∃ W0, W0 = (w.alloc (.cells #[.int .i64 x0, .int .i64 x1] 25)).alloc (.cells #[.int .i64 x0, .int .i64 x1] 25) := ⟨_, rfl⟩
  have bW0 : Below w.heap.size w W0 := by rw [hW0]; exact ((Below.refl _ _).alloc (Nat.le_refl _) _).alloc (by simp) _
  have hA : W0.heap[w.heap.size]? = some (.cells #[.int .i64 x0, .int .i64 x1] 25 (0, 0)) := by rw [hW0, heap_alloc_old _ _ (by simp)]; exact heap_alloc_new w _
  have hB : W0.heap[w.heap.size + 1]? = some (.cells #[.int .i64 x0, .int .i64 x1] 25 (0, 0)) := by rw [hW0]; exact (by have := heap_alloc_new (w.alloc (.cells #[.int .i64 x0, .int .i64 x1] 25)) (.cells #[.int .i64 x0, .int .i64 x1] 25); simpa using this)
  have zW0 : W0.heap.size = w.heap.size + 1 + 1 := by rw [hW0]; simp
  have HW0 : Hid (W0 = _) := hW0
  have HAB : Hid (W0.heap[w.heap.size]? = some (.cells #[.int .i64 x0, .int .i64 x1] 25 (0, 0)) ∧ W0.heap[w.heap.size + 1]? = some (.cells #[.int .i64 x0, .int .i64 x1] 25 (0, 0))) := ⟨hA, hB⟩
  clear hW0 hA hB
  go_enter Tryd.func11, Tryd.ntmps11
  go_wp2
  go_ret
  exact ⟨rfl, by rw [← HW0.out]; exact bW0⟩

end Go.Proofs.YtndlehogfedfaaaDoor
