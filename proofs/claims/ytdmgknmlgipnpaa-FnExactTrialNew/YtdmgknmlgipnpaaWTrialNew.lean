/-
  TrialNew of both sides; the law FnExactTrialNew over the contracts of its two functions.
-/
import Derived.Test.YtdmgknmlgipnpaaLTrialNew
import Derived.Test.YtdmgknmlgipnpaaWDiskNew
import Derived.Test.YtdmgknmlgipnpaaKpOk
import Derived.Deep.RegionHeld3
import Derived.Laws.CopyOwn
import Derived.Test.YtdmgknmlgipnpaaOpV
namespace Go.Proofs.Ytdmgknmlgipnpaa
open Go.RowKit
set_option linter.unusedVariables false
set_option linter.unusedSimpArgs false

/-- Whether a trial is made. -/
def triB (room keep size : Int) : Bool := newB room && keepB keep size
def zDisk : shDisk.D := ((0 : Int), (0 : Int), (0 : Int), [], [], [], ())
def zStore : shStore.D := (zDisk, (0 : Int), (0 : Int), [], (0 : Int), ())
def triD (keep size : Int) (d : shDisk.D) : shTrial.D := ((false : Bool), keep, size, zStore, d, [], [], ())
def triA (room keep size : Int) : shTrial.D := if triB room keep size then triD keep size (newD room) else triD 0 0 zDisk
def triC (k s x0 x1 x2 : Int) : List Value := [.bool false, .int .i64 k, .int .i64 s, .int .i64 0, .int .i64 0, .int .i64 0, .slice none 0 0, .slice none 0 0, .slice none 0 0, .int .i64 0, .int .i64 0, .slice none 0 0, .int .i64 0, .int .i64 x0, .int .i64 x1, .int .i64 x2, .slice none 0 0, .slice none 0 0, .slice none 0 0, .slice none 0 0, .slice none 0 0]

theorem own_zDisk (x0 x1 x2 : Int) (w : World) (B : Nat) : Own shDisk w B [.int .i64 x0, .int .i64 x1, .int .i64 x2, .slice none 0 0, .slice none 0 0, .slice none 0 0] ((x0, x1, x2, [], [], [], ()) : shDisk.D) [] :=
  own_Disk (d := ((x0, x1, x2, [], [], [], ()) : shDisk.D)) (F3 := []) (F4 := []) (F5 := []) (.inl ⟨rfl, rfl, rfl⟩) (.inl ⟨rfl, rfl, rfl⟩) (.inl ⟨rfl, rfl, rfl⟩)

theorem own_zStore (w : World) (B : Nat) : Own shStore w B [.int .i64 0, .int .i64 0, .int .i64 0, .slice none 0 0, .slice none 0 0, .slice none 0 0, .int .i64 0, .int .i64 0, .slice none 0 0, .int .i64 0] zStore [] :=
  own_Store (d := zStore) (F0 := []) (F3 := []) (own_zDisk 0 0 0 w B) (.inl ⟨rfl, rfl, rfl⟩)

theorem own_tri (k s x0 x1 x2 : Int) (w : World) (B : Nat) : Own shTrial w B (triC k s x0 x1 x2) (triD k s ((x0, x1, x2, [], [], [], ()) : shDisk.D)) [] :=
  own_Trial (d := triD k s ((x0, x1, x2, [], [], [], ()) : shDisk.D)) (F3 := []) (F4 := []) (F5 := []) (F6 := []) (own_zStore w B) (own_zDisk x0 x1 x2 w B) (.inl ⟨rfl, rfl, rfl⟩) (.inl ⟨rfl, rfl, rfl⟩)

set_option maxRecDepth 100000 in
set_option maxHeartbeats 4000000 in
theorem specTri_any (room keep size : Int) (w : World) :
    Calls Try.prog 5 #[.int .i64 room, .int .i64 keep, .int .i64 size] w fun e w' => ∃ o, e = .returned (.tuple #[.agg o.toArray, .bool (triB room keep size)]) ∧ Own shTrial w' w.heap.size o (triA room keep size) [] ∧ Below w.heap.size w w' := by
  obtain ⟨x0, e0⟩ : ∃ x : Int, x = newR room := ⟨_, rfl⟩
  obtain ⟨x1, e1⟩ : ∃ x : Int, x = newF room := ⟨_, rfl⟩
  obtain ⟨x2, e2⟩ : ∃ x : Int, x = newN room := ⟨_, rfl⟩
  have hC : newC room = [.int .i64 x0, .int .i64 x1, .int .i64 x2, .slice none 0 0, .slice none 0 0, .slice none 0 0] := by unfold newC; rw [← e0, ← e1, ← e2]
  have hD : newD room = ((x0, x1, x2, [], [], [], ()) : shDisk.D) := by unfold newD; rw [← e0, ← e1, ← e2]
  have qN : Hid (∀ w' b, newB room = b → Calls Try.prog 14 #[.int .i64 room] w' fun e w'' => e = .returned (.tuple #[.agg #[.int .i64 x0, .int .i64 x1, .int .i64 x2, .slice none 0 0, .slice none 0 0, .slice none 0 0], .bool b]) ∧ Below w'.heap.size w' w'') := fun w' b hb => by
    have := specNew_any room w'; rw [hC, hb] at this; exact this
  have qK : Hid (∀ w' b, keepB keep size = b → Calls Try.prog 15 #[.int .i64 keep, .int .i64 size] w' fun e w'' => e = .returned (.bool b) ∧ w'' = w') := fun w' b hb => by
    rw [← hb]; exact specKeep_ok keep size w'
  have OT : Hid (∀ w' B, Own shTrial w' B (triC keep size x0 x1 x2) (triD keep size (newD room)) [] ∧ Own shTrial w' B (triC 0 0 0 0 0) (triD 0 0 zDisk) []) := fun w' B => ⟨by rw [hD]; exact own_tri keep size x0 x1 x2 w' B, own_tri 0 0 0 0 0 w' B⟩
  obtain ⟨W0, hW0⟩ : ∃ W, W = w.alloc (.cells #[.bool false, .int .i64 0, .int .i64 0, .int .i64 0, .int .i64 0, .int .i64 0, .slice none 0 0, .slice none 0 0, .slice none 0 0, .int .i64 0, .int .i64 0, .slice none 0 0, .int .i64 0, .int .i64 0, .int .i64 0, .int .i64 0, .slice none 0 0, .slice none 0 0, .slice none 0 0, .slice none 0 0, .slice none 0 0] 31) := ⟨_, rfl⟩
  have bW0 : Below w.heap.size w W0 := by rw [hW0]; exact (Below.refl _ _).alloc (Nat.le_refl _) _
  have iR0 : W0.heap[w.heap.size]? = some (.cells #[.bool false, .int .i64 0, .int .i64 0, .int .i64 0, .int .i64 0, .int .i64 0, .slice none 0 0, .slice none 0 0, .slice none 0 0, .int .i64 0, .int .i64 0, .slice none 0 0, .int .i64 0, .int .i64 0, .int .i64 0, .int .i64 0, .slice none 0 0, .slice none 0 0, .slice none 0 0, .slice none 0 0, .slice none 0 0] 31 (0, 0)) := by rw [hW0]; exact heap_alloc_new w _
  have zW0 : w.heap.size < W0.heap.size := by rw [hW0]; simp
  have HW0 : Hid (W0 = _) := hW0
  have HI0 : Hid _ := iR0
  clear e0 e1 e2 hC hD hW0 iR0
  cases hN : newB room with
  | false =>
    have HA : Hid (triB room keep size = false ∧ triA room keep size = triD 0 0 zDisk) := by
      have h : triB room keep size = false := by unfold triB; rw [hN]; rfl
      exact ⟨h, by unfold triA; rw [if_neg (by rw [h]; simp)]⟩
    go_enter Try.func5, Try.ntmps5
    go_wp2_with fail
    rw [← HW0.out]
    refine (qN.out _ false hN).mono ?_
    rintro e w1 ⟨rfl, hb1⟩
    have b1 := bW0.trans (hb1.mono bW0.size)
    have iR1 : w1.heap[w.heap.size]? = some (.cells #[.bool false, .int .i64 0, .int .i64 0, .int .i64 0, .int .i64 0, .int .i64 0, .slice none 0 0, .slice none 0 0, .slice none 0 0, .int .i64 0, .int .i64 0, .slice none 0 0, .int .i64 0, .int .i64 0, .int .i64 0, .int .i64 0, .slice none 0 0, .slice none 0 0, .slice none 0 0, .slice none 0 0, .slice none 0 0] 31 (0, 0)) := (hb1.block _ zW0).trans HI0.out
    have z1 : w.heap.size < w1.heap.size := by have := hb1.size; omega
    have HI1 : Hid _ := iR1
    have HR : Hid ((w1.alloc (.cells #[.int .i64 x0, .int .i64 x1, .int .i64 x2, .slice none 0 0, .slice none 0 0, .slice none 0 0] 26)).heap[w.heap.size]? = some (.cells #[.bool false, .int .i64 0, .int .i64 0, .int .i64 0, .int .i64 0, .int .i64 0, .slice none 0 0, .slice none 0 0, .slice none 0 0, .int .i64 0, .int .i64 0, .slice none 0 0, .int .i64 0, .int .i64 0, .int .i64 0, .int .i64 0, .slice none 0 0, .slice none 0 0, .slice none 0 0, .slice none 0 0, .slice none 0 0] 31 (0, 0))) := (heap_alloc_old _ _ z1).trans iR1
    have bW1 : Below w.heap.size w (w1.alloc (.cells #[.int .i64 x0, .int .i64 x1, .int .i64 x2, .slice none 0 0, .slice none 0 0, .slice none 0 0] 26)) := b1.alloc b1.size _
    clear hb1 iR1
    have HLD : (loadVar 31 ⟨w.heap.size, 0, none⟩).run Try.prog ((w1.alloc (.cells #[.int .i64 x0, .int .i64 x1, .int .i64 x2, .slice none 0 0, .slice none 0 0, .slice none 0 0] 26)).setRow w.heap.size #[.bool false, .int .i64 0, .int .i64 0, .int .i64 0, .int .i64 0, .int .i64 0, .slice none 0 0, .slice none 0 0, .slice none 0 0, .int .i64 0, .int .i64 0, .slice none 0 0, .int .i64 0, .int .i64 0, .int .i64 0, .int .i64 0, .slice none 0 0, .slice none 0 0, .slice none 0 0, .slice none 0 0, .slice none 0 0]) = .ok (.agg #[.bool false, .int .i64 0, .int .i64 0, .int .i64 0, .int .i64 0, .int .i64 0, .slice none 0 0, .slice none 0 0, .slice none 0 0, .int .i64 0, .int .i64 0, .slice none 0 0, .int .i64 0, .int .i64 0, .int .i64 0, .int .i64 0, .slice none 0 0, .slice none 0 0, .slice none 0 0, .slice none 0 0, .slice none 0 0]) ((w1.alloc (.cells #[.int .i64 x0, .int .i64 x1, .int .i64 x2, .slice none 0 0, .slice none 0 0, .slice none 0 0] 26)).setRow w.heap.size #[.bool false, .int .i64 0, .int .i64 0, .int .i64 0, .int .i64 0, .int .i64 0, .slice none 0 0, .slice none 0 0, .slice none 0 0, .int .i64 0, .int .i64 0, .slice none 0 0, .int .i64 0, .int .i64 0, .int .i64 0, .int .i64 0, .slice none 0 0, .slice none 0 0, .slice none 0 0, .slice none 0 0, .slice none 0 0]) := run_loadVar_row _ _ _ _ _ _ _ (setRow_heap _ _ _ _ _ _ HR.out) Try.underlying31 rfl (by kernel_rfl)
    have HB : Hid (Below w.heap.size w ((w1.alloc (.cells #[.int .i64 x0, .int .i64 x1, .int .i64 x2, .slice none 0 0, .slice none 0 0, .slice none 0 0] 26)).setRow w.heap.size #[.bool false, .int .i64 0, .int .i64 0, .int .i64 0, .int .i64 0, .int .i64 0, .slice none 0 0, .slice none 0 0, .slice none 0 0, .int .i64 0, .int .i64 0, .slice none 0 0, .int .i64 0, .int .i64 0, .int .i64 0, .int .i64 0, .slice none 0 0, .slice none 0 0, .slice none 0 0, .slice none 0 0, .slice none 0 0])) := below_setRow bW1 (Nat.le_refl _) _
    go_wp2_with (refine wpList_store_row rfl _ _ _ rfl _ _ rfl rfl _ _ HR.out (by kernel_rfl) rfl (by simp [Value.oneCell']) ?_)
    (try simp only [Exit.inBlock, Exit.then])
    refine bodyPost_ret (by simp [results, Try.results5, asAddr, HLD]; try rfl) rfl ?_
    exact ⟨_, by rw [HA.out.1], by rw [HA.out.2]; exact (OT.out _ _).2, HB.out⟩
  | true =>
    cases hK : keepB keep size with
    | false =>
      have HA : Hid (triB room keep size = false ∧ triA room keep size = triD 0 0 zDisk) := by
        have h : triB room keep size = false := by unfold triB; rw [hN, hK]; rfl
        exact ⟨h, by unfold triA; rw [if_neg (by rw [h]; simp)]⟩
      go_enter Try.func5, Try.ntmps5
      go_wp2_with fail
      rw [← HW0.out]
      refine (qN.out _ true hN).mono ?_
      rintro e w1 ⟨rfl, hb1⟩
      have b1 := bW0.trans (hb1.mono bW0.size)
      have iR1 : w1.heap[w.heap.size]? = some (.cells #[.bool false, .int .i64 0, .int .i64 0, .int .i64 0, .int .i64 0, .int .i64 0, .slice none 0 0, .slice none 0 0, .slice none 0 0, .int .i64 0, .int .i64 0, .slice none 0 0, .int .i64 0, .int .i64 0, .int .i64 0, .int .i64 0, .slice none 0 0, .slice none 0 0, .slice none 0 0, .slice none 0 0, .slice none 0 0] 31 (0, 0)) := (hb1.block _ zW0).trans HI0.out
      have z1 : w.heap.size < w1.heap.size := by have := hb1.size; omega
      have HI1 : Hid _ := iR1
      have HR : Hid ((w1.alloc (.cells #[.int .i64 x0, .int .i64 x1, .int .i64 x2, .slice none 0 0, .slice none 0 0, .slice none 0 0] 26)).heap[w.heap.size]? = some (.cells #[.bool false, .int .i64 0, .int .i64 0, .int .i64 0, .int .i64 0, .int .i64 0, .slice none 0 0, .slice none 0 0, .slice none 0 0, .int .i64 0, .int .i64 0, .slice none 0 0, .int .i64 0, .int .i64 0, .int .i64 0, .int .i64 0, .slice none 0 0, .slice none 0 0, .slice none 0 0, .slice none 0 0, .slice none 0 0] 31 (0, 0))) := (heap_alloc_old _ _ z1).trans iR1
      have bW1 : Below w.heap.size w (w1.alloc (.cells #[.int .i64 x0, .int .i64 x1, .int .i64 x2, .slice none 0 0, .slice none 0 0, .slice none 0 0] 26)) := b1.alloc b1.size _
      clear hb1 iR1
      go_wp2_with fail
      refine (qK.out _ false hK).mono ?_
      rintro e w2 ⟨rfl, rfl⟩
      have HLD : (loadVar 31 ⟨w.heap.size, 0, none⟩).run Try.prog ((w1.alloc (.cells #[.int .i64 x0, .int .i64 x1, .int .i64 x2, .slice none 0 0, .slice none 0 0, .slice none 0 0] 26)).setRow w.heap.size #[.bool false, .int .i64 0, .int .i64 0, .int .i64 0, .int .i64 0, .int .i64 0, .slice none 0 0, .slice none 0 0, .slice none 0 0, .int .i64 0, .int .i64 0, .slice none 0 0, .int .i64 0, .int .i64 0, .int .i64 0, .int .i64 0, .slice none 0 0, .slice none 0 0, .slice none 0 0, .slice none 0 0, .slice none 0 0]) = .ok (.agg #[.bool false, .int .i64 0, .int .i64 0, .int .i64 0, .int .i64 0, .int .i64 0, .slice none 0 0, .slice none 0 0, .slice none 0 0, .int .i64 0, .int .i64 0, .slice none 0 0, .int .i64 0, .int .i64 0, .int .i64 0, .int .i64 0, .slice none 0 0, .slice none 0 0, .slice none 0 0, .slice none 0 0, .slice none 0 0]) ((w1.alloc (.cells #[.int .i64 x0, .int .i64 x1, .int .i64 x2, .slice none 0 0, .slice none 0 0, .slice none 0 0] 26)).setRow w.heap.size #[.bool false, .int .i64 0, .int .i64 0, .int .i64 0, .int .i64 0, .int .i64 0, .slice none 0 0, .slice none 0 0, .slice none 0 0, .int .i64 0, .int .i64 0, .slice none 0 0, .int .i64 0, .int .i64 0, .int .i64 0, .int .i64 0, .slice none 0 0, .slice none 0 0, .slice none 0 0, .slice none 0 0, .slice none 0 0]) := run_loadVar_row _ _ _ _ _ _ _ (setRow_heap _ _ _ _ _ _ HR.out) Try.underlying31 rfl (by kernel_rfl)
      have HB : Hid (Below w.heap.size w ((w1.alloc (.cells #[.int .i64 x0, .int .i64 x1, .int .i64 x2, .slice none 0 0, .slice none 0 0, .slice none 0 0] 26)).setRow w.heap.size #[.bool false, .int .i64 0, .int .i64 0, .int .i64 0, .int .i64 0, .int .i64 0, .slice none 0 0, .slice none 0 0, .slice none 0 0, .int .i64 0, .int .i64 0, .slice none 0 0, .int .i64 0, .int .i64 0, .int .i64 0, .int .i64 0, .slice none 0 0, .slice none 0 0, .slice none 0 0, .slice none 0 0, .slice none 0 0])) := below_setRow bW1 (Nat.le_refl _) _
      go_wp2_with (refine wpList_store_row rfl _ _ _ rfl _ _ rfl rfl _ _ HR.out (by kernel_rfl) rfl (by simp [Value.oneCell']) ?_)
      (try simp only [Exit.inBlock, Exit.then])
      refine bodyPost_ret (by simp [results, Try.results5, asAddr, HLD]; try rfl) rfl ?_
      exact ⟨_, by rw [HA.out.1], by rw [HA.out.2]; exact (OT.out _ _).2, HB.out⟩
    | true =>
      have HA : Hid (triB room keep size = true ∧ triA room keep size = triD keep size (newD room)) := by
        have h : triB room keep size = true := by unfold triB; rw [hN, hK]; rfl
        exact ⟨h, by unfold triA; rw [if_pos h]⟩
      go_enter Try.func5, Try.ntmps5
      go_wp2_with fail
      rw [← HW0.out]
      refine (qN.out _ true hN).mono ?_
      rintro e w1 ⟨rfl, hb1⟩
      have b1 := bW0.trans (hb1.mono bW0.size)
      have iR1 : w1.heap[w.heap.size]? = some (.cells #[.bool false, .int .i64 0, .int .i64 0, .int .i64 0, .int .i64 0, .int .i64 0, .slice none 0 0, .slice none 0 0, .slice none 0 0, .int .i64 0, .int .i64 0, .slice none 0 0, .int .i64 0, .int .i64 0, .int .i64 0, .int .i64 0, .slice none 0 0, .slice none 0 0, .slice none 0 0, .slice none 0 0, .slice none 0 0] 31 (0, 0)) := (hb1.block _ zW0).trans HI0.out
      have z1 : w.heap.size < w1.heap.size := by have := hb1.size; omega
      have HI1 : Hid _ := iR1
      have HR : Hid ((w1.alloc (.cells #[.int .i64 x0, .int .i64 x1, .int .i64 x2, .slice none 0 0, .slice none 0 0, .slice none 0 0] 26)).heap[w.heap.size]? = some (.cells #[.bool false, .int .i64 0, .int .i64 0, .int .i64 0, .int .i64 0, .int .i64 0, .slice none 0 0, .slice none 0 0, .slice none 0 0, .int .i64 0, .int .i64 0, .slice none 0 0, .int .i64 0, .int .i64 0, .int .i64 0, .int .i64 0, .slice none 0 0, .slice none 0 0, .slice none 0 0, .slice none 0 0, .slice none 0 0] 31 (0, 0))) := (heap_alloc_old _ _ z1).trans iR1
      have bW1 : Below w.heap.size w (w1.alloc (.cells #[.int .i64 x0, .int .i64 x1, .int .i64 x2, .slice none 0 0, .slice none 0 0, .slice none 0 0] 26)) := b1.alloc b1.size _
      clear hb1 iR1
      go_wp2_with fail
      refine (qK.out _ true hK).mono ?_
      rintro e w2 ⟨rfl, rfl⟩
      have HLD : (loadVar 31 ⟨w.heap.size, 0, none⟩).run Try.prog ((w1.alloc (.cells #[.int .i64 x0, .int .i64 x1, .int .i64 x2, .slice none 0 0, .slice none 0 0, .slice none 0 0] 26)).setRow w.heap.size #[.bool false, .int .i64 keep, .int .i64 size, .int .i64 0, .int .i64 0, .int .i64 0, .slice none 0 0, .slice none 0 0, .slice none 0 0, .int .i64 0, .int .i64 0, .slice none 0 0, .int .i64 0, .int .i64 x0, .int .i64 x1, .int .i64 x2, .slice none 0 0, .slice none 0 0, .slice none 0 0, .slice none 0 0, .slice none 0 0]) = .ok (.agg #[.bool false, .int .i64 keep, .int .i64 size, .int .i64 0, .int .i64 0, .int .i64 0, .slice none 0 0, .slice none 0 0, .slice none 0 0, .int .i64 0, .int .i64 0, .slice none 0 0, .int .i64 0, .int .i64 x0, .int .i64 x1, .int .i64 x2, .slice none 0 0, .slice none 0 0, .slice none 0 0, .slice none 0 0, .slice none 0 0]) ((w1.alloc (.cells #[.int .i64 x0, .int .i64 x1, .int .i64 x2, .slice none 0 0, .slice none 0 0, .slice none 0 0] 26)).setRow w.heap.size #[.bool false, .int .i64 keep, .int .i64 size, .int .i64 0, .int .i64 0, .int .i64 0, .slice none 0 0, .slice none 0 0, .slice none 0 0, .int .i64 0, .int .i64 0, .slice none 0 0, .int .i64 0, .int .i64 x0, .int .i64 x1, .int .i64 x2, .slice none 0 0, .slice none 0 0, .slice none 0 0, .slice none 0 0, .slice none 0 0]) := run_loadVar_row _ _ _ _ _ _ _ (setRow_heap _ _ _ _ _ _ HR.out) Try.underlying31 rfl (by kernel_rfl)
      have HB : Hid (Below w.heap.size w ((w1.alloc (.cells #[.int .i64 x0, .int .i64 x1, .int .i64 x2, .slice none 0 0, .slice none 0 0, .slice none 0 0] 26)).setRow w.heap.size #[.bool false, .int .i64 keep, .int .i64 size, .int .i64 0, .int .i64 0, .int .i64 0, .slice none 0 0, .slice none 0 0, .slice none 0 0, .int .i64 0, .int .i64 0, .slice none 0 0, .int .i64 0, .int .i64 x0, .int .i64 x1, .int .i64 x2, .slice none 0 0, .slice none 0 0, .slice none 0 0, .slice none 0 0, .slice none 0 0])) := below_setRow bW1 (Nat.le_refl _) _
      go_wp2_with (refine wpList_store_row rfl _ _ _ rfl _ _ rfl rfl _ _ HR.out (by kernel_rfl) rfl (by simp [Value.oneCell']) ?_)
      (try simp only [Exit.inBlock, Exit.then])
      refine bodyPost_ret (by simp [results, Try.results5, asAddr, HLD]; try rfl) rfl ?_
      exact ⟨_, by rw [HA.out.1], by rw [HA.out.2]; exact (OT.out _ _).1, HB.out⟩

set_option maxRecDepth 100000 in
set_option maxHeartbeats 4000000 in
theorem implTri_any (room keep size : Int) (w : World) :
    Calls Try.prog 6 #[.int .i64 room, .int .i64 keep, .int .i64 size] w fun e w' => ∃ o, e = .returned (.tuple #[.agg o.toArray, .bool (triB room keep size)]) ∧ Own shTrial w' w.heap.size o (triA room keep size) [] ∧ Below w.heap.size w w' := by
  obtain ⟨x0, e0⟩ : ∃ x : Int, x = newR room := ⟨_, rfl⟩
  obtain ⟨x1, e1⟩ : ∃ x : Int, x = newF room := ⟨_, rfl⟩
  obtain ⟨x2, e2⟩ : ∃ x : Int, x = newN room := ⟨_, rfl⟩
  have hC : newC room = [.int .i64 x0, .int .i64 x1, .int .i64 x2, .slice none 0 0, .slice none 0 0, .slice none 0 0] := by unfold newC; rw [← e0, ← e1, ← e2]
  have hD : newD room = ((x0, x1, x2, [], [], [], ()) : shDisk.D) := by unfold newD; rw [← e0, ← e1, ← e2]
  have qN : Hid (∀ w' b, newB room = b → Calls Try.prog 16 #[.int .i64 room] w' fun e w'' => e = .returned (.tuple #[.agg #[.int .i64 x0, .int .i64 x1, .int .i64 x2, .slice none 0 0, .slice none 0 0, .slice none 0 0], .bool b]) ∧ Below w'.heap.size w' w'') := fun w' b hb => by
    have := implNew_any room w'; rw [hC, hb] at this; exact this
  have qK : Hid (∀ w' b, keepB keep size = b → Calls Try.prog 17 #[.int .i64 keep, .int .i64 size] w' fun e w'' => e = .returned (.bool b) ∧ w'' = w') := fun w' b hb => by
    rw [← hb]; exact implKeep_ok keep size w'
  have OT : Hid (∀ w' B, Own shTrial w' B (triC keep size x0 x1 x2) (triD keep size (newD room)) [] ∧ Own shTrial w' B (triC 0 0 0 0 0) (triD 0 0 zDisk) []) := fun w' B => ⟨by rw [hD]; exact own_tri keep size x0 x1 x2 w' B, own_tri 0 0 0 0 0 w' B⟩
  obtain ⟨W0, hW0⟩ : ∃ W, W = w.alloc (.cells #[.bool false, .int .i64 0, .int .i64 0, .int .i64 0, .int .i64 0, .int .i64 0, .slice none 0 0, .slice none 0 0, .slice none 0 0, .int .i64 0, .int .i64 0, .slice none 0 0, .int .i64 0, .int .i64 0, .int .i64 0, .int .i64 0, .slice none 0 0, .slice none 0 0, .slice none 0 0, .slice none 0 0, .slice none 0 0] 31) := ⟨_, rfl⟩
  have bW0 : Below w.heap.size w W0 := by rw [hW0]; exact (Below.refl _ _).alloc (Nat.le_refl _) _
  have iR0 : W0.heap[w.heap.size]? = some (.cells #[.bool false, .int .i64 0, .int .i64 0, .int .i64 0, .int .i64 0, .int .i64 0, .slice none 0 0, .slice none 0 0, .slice none 0 0, .int .i64 0, .int .i64 0, .slice none 0 0, .int .i64 0, .int .i64 0, .int .i64 0, .int .i64 0, .slice none 0 0, .slice none 0 0, .slice none 0 0, .slice none 0 0, .slice none 0 0] 31 (0, 0)) := by rw [hW0]; exact heap_alloc_new w _
  have zW0 : w.heap.size < W0.heap.size := by rw [hW0]; simp
  have HW0 : Hid (W0 = _) := hW0
  have HI0 : Hid _ := iR0
  clear e0 e1 e2 hC hD hW0 iR0
  cases hN : newB room with
  | false =>
    have HA : Hid (triB room keep size = false ∧ triA room keep size = triD 0 0 zDisk) := by
      have h : triB room keep size = false := by unfold triB; rw [hN]; rfl
      exact ⟨h, by unfold triA; rw [if_neg (by rw [h]; simp)]⟩
    go_enter Try.func6, Try.ntmps6
    go_wp2_with fail
    rw [← HW0.out]
    refine (qN.out _ false hN).mono ?_
    rintro e w1 ⟨rfl, hb1⟩
    have b1 := bW0.trans (hb1.mono bW0.size)
    have iR1 : w1.heap[w.heap.size]? = some (.cells #[.bool false, .int .i64 0, .int .i64 0, .int .i64 0, .int .i64 0, .int .i64 0, .slice none 0 0, .slice none 0 0, .slice none 0 0, .int .i64 0, .int .i64 0, .slice none 0 0, .int .i64 0, .int .i64 0, .int .i64 0, .int .i64 0, .slice none 0 0, .slice none 0 0, .slice none 0 0, .slice none 0 0, .slice none 0 0] 31 (0, 0)) := (hb1.block _ zW0).trans HI0.out
    have z1 : w.heap.size < w1.heap.size := by have := hb1.size; omega
    have HI1 : Hid _ := iR1
    have HR : Hid ((w1.alloc (.cells #[.int .i64 x0, .int .i64 x1, .int .i64 x2, .slice none 0 0, .slice none 0 0, .slice none 0 0] 26)).heap[w.heap.size]? = some (.cells #[.bool false, .int .i64 0, .int .i64 0, .int .i64 0, .int .i64 0, .int .i64 0, .slice none 0 0, .slice none 0 0, .slice none 0 0, .int .i64 0, .int .i64 0, .slice none 0 0, .int .i64 0, .int .i64 0, .int .i64 0, .int .i64 0, .slice none 0 0, .slice none 0 0, .slice none 0 0, .slice none 0 0, .slice none 0 0] 31 (0, 0))) := (heap_alloc_old _ _ z1).trans iR1
    have bW1 : Below w.heap.size w (w1.alloc (.cells #[.int .i64 x0, .int .i64 x1, .int .i64 x2, .slice none 0 0, .slice none 0 0, .slice none 0 0] 26)) := b1.alloc b1.size _
    clear hb1 iR1
    have HLD : (loadVar 31 ⟨w.heap.size, 0, none⟩).run Try.prog ((w1.alloc (.cells #[.int .i64 x0, .int .i64 x1, .int .i64 x2, .slice none 0 0, .slice none 0 0, .slice none 0 0] 26)).setRow w.heap.size #[.bool false, .int .i64 0, .int .i64 0, .int .i64 0, .int .i64 0, .int .i64 0, .slice none 0 0, .slice none 0 0, .slice none 0 0, .int .i64 0, .int .i64 0, .slice none 0 0, .int .i64 0, .int .i64 0, .int .i64 0, .int .i64 0, .slice none 0 0, .slice none 0 0, .slice none 0 0, .slice none 0 0, .slice none 0 0]) = .ok (.agg #[.bool false, .int .i64 0, .int .i64 0, .int .i64 0, .int .i64 0, .int .i64 0, .slice none 0 0, .slice none 0 0, .slice none 0 0, .int .i64 0, .int .i64 0, .slice none 0 0, .int .i64 0, .int .i64 0, .int .i64 0, .int .i64 0, .slice none 0 0, .slice none 0 0, .slice none 0 0, .slice none 0 0, .slice none 0 0]) ((w1.alloc (.cells #[.int .i64 x0, .int .i64 x1, .int .i64 x2, .slice none 0 0, .slice none 0 0, .slice none 0 0] 26)).setRow w.heap.size #[.bool false, .int .i64 0, .int .i64 0, .int .i64 0, .int .i64 0, .int .i64 0, .slice none 0 0, .slice none 0 0, .slice none 0 0, .int .i64 0, .int .i64 0, .slice none 0 0, .int .i64 0, .int .i64 0, .int .i64 0, .int .i64 0, .slice none 0 0, .slice none 0 0, .slice none 0 0, .slice none 0 0, .slice none 0 0]) := run_loadVar_row _ _ _ _ _ _ _ (setRow_heap _ _ _ _ _ _ HR.out) Try.underlying31 rfl (by kernel_rfl)
    have HB : Hid (Below w.heap.size w ((w1.alloc (.cells #[.int .i64 x0, .int .i64 x1, .int .i64 x2, .slice none 0 0, .slice none 0 0, .slice none 0 0] 26)).setRow w.heap.size #[.bool false, .int .i64 0, .int .i64 0, .int .i64 0, .int .i64 0, .int .i64 0, .slice none 0 0, .slice none 0 0, .slice none 0 0, .int .i64 0, .int .i64 0, .slice none 0 0, .int .i64 0, .int .i64 0, .int .i64 0, .int .i64 0, .slice none 0 0, .slice none 0 0, .slice none 0 0, .slice none 0 0, .slice none 0 0])) := below_setRow bW1 (Nat.le_refl _) _
    go_wp2_with (refine wpList_store_row rfl _ _ _ rfl _ _ rfl rfl _ _ HR.out (by kernel_rfl) rfl (by simp [Value.oneCell']) ?_)
    (try simp only [Exit.inBlock, Exit.then])
    refine bodyPost_ret (by simp [results, Try.results6, asAddr, HLD]; try rfl) rfl ?_
    exact ⟨_, by rw [HA.out.1], by rw [HA.out.2]; exact (OT.out _ _).2, HB.out⟩
  | true =>
    cases hK : keepB keep size with
    | false =>
      have HA : Hid (triB room keep size = false ∧ triA room keep size = triD 0 0 zDisk) := by
        have h : triB room keep size = false := by unfold triB; rw [hN, hK]; rfl
        exact ⟨h, by unfold triA; rw [if_neg (by rw [h]; simp)]⟩
      go_enter Try.func6, Try.ntmps6
      go_wp2_with fail
      rw [← HW0.out]
      refine (qN.out _ true hN).mono ?_
      rintro e w1 ⟨rfl, hb1⟩
      have b1 := bW0.trans (hb1.mono bW0.size)
      have iR1 : w1.heap[w.heap.size]? = some (.cells #[.bool false, .int .i64 0, .int .i64 0, .int .i64 0, .int .i64 0, .int .i64 0, .slice none 0 0, .slice none 0 0, .slice none 0 0, .int .i64 0, .int .i64 0, .slice none 0 0, .int .i64 0, .int .i64 0, .int .i64 0, .int .i64 0, .slice none 0 0, .slice none 0 0, .slice none 0 0, .slice none 0 0, .slice none 0 0] 31 (0, 0)) := (hb1.block _ zW0).trans HI0.out
      have z1 : w.heap.size < w1.heap.size := by have := hb1.size; omega
      have HI1 : Hid _ := iR1
      have HR : Hid ((w1.alloc (.cells #[.int .i64 x0, .int .i64 x1, .int .i64 x2, .slice none 0 0, .slice none 0 0, .slice none 0 0] 26)).heap[w.heap.size]? = some (.cells #[.bool false, .int .i64 0, .int .i64 0, .int .i64 0, .int .i64 0, .int .i64 0, .slice none 0 0, .slice none 0 0, .slice none 0 0, .int .i64 0, .int .i64 0, .slice none 0 0, .int .i64 0, .int .i64 0, .int .i64 0, .int .i64 0, .slice none 0 0, .slice none 0 0, .slice none 0 0, .slice none 0 0, .slice none 0 0] 31 (0, 0))) := (heap_alloc_old _ _ z1).trans iR1
      have bW1 : Below w.heap.size w (w1.alloc (.cells #[.int .i64 x0, .int .i64 x1, .int .i64 x2, .slice none 0 0, .slice none 0 0, .slice none 0 0] 26)) := b1.alloc b1.size _
      clear hb1 iR1
      go_wp2_with fail
      refine (qK.out _ false hK).mono ?_
      rintro e w2 ⟨rfl, rfl⟩
      have HLD : (loadVar 31 ⟨w.heap.size, 0, none⟩).run Try.prog ((w1.alloc (.cells #[.int .i64 x0, .int .i64 x1, .int .i64 x2, .slice none 0 0, .slice none 0 0, .slice none 0 0] 26)).setRow w.heap.size #[.bool false, .int .i64 0, .int .i64 0, .int .i64 0, .int .i64 0, .int .i64 0, .slice none 0 0, .slice none 0 0, .slice none 0 0, .int .i64 0, .int .i64 0, .slice none 0 0, .int .i64 0, .int .i64 0, .int .i64 0, .int .i64 0, .slice none 0 0, .slice none 0 0, .slice none 0 0, .slice none 0 0, .slice none 0 0]) = .ok (.agg #[.bool false, .int .i64 0, .int .i64 0, .int .i64 0, .int .i64 0, .int .i64 0, .slice none 0 0, .slice none 0 0, .slice none 0 0, .int .i64 0, .int .i64 0, .slice none 0 0, .int .i64 0, .int .i64 0, .int .i64 0, .int .i64 0, .slice none 0 0, .slice none 0 0, .slice none 0 0, .slice none 0 0, .slice none 0 0]) ((w1.alloc (.cells #[.int .i64 x0, .int .i64 x1, .int .i64 x2, .slice none 0 0, .slice none 0 0, .slice none 0 0] 26)).setRow w.heap.size #[.bool false, .int .i64 0, .int .i64 0, .int .i64 0, .int .i64 0, .int .i64 0, .slice none 0 0, .slice none 0 0, .slice none 0 0, .int .i64 0, .int .i64 0, .slice none 0 0, .int .i64 0, .int .i64 0, .int .i64 0, .int .i64 0, .slice none 0 0, .slice none 0 0, .slice none 0 0, .slice none 0 0, .slice none 0 0]) := run_loadVar_row _ _ _ _ _ _ _ (setRow_heap _ _ _ _ _ _ HR.out) Try.underlying31 rfl (by kernel_rfl)
      have HB : Hid (Below w.heap.size w ((w1.alloc (.cells #[.int .i64 x0, .int .i64 x1, .int .i64 x2, .slice none 0 0, .slice none 0 0, .slice none 0 0] 26)).setRow w.heap.size #[.bool false, .int .i64 0, .int .i64 0, .int .i64 0, .int .i64 0, .int .i64 0, .slice none 0 0, .slice none 0 0, .slice none 0 0, .int .i64 0, .int .i64 0, .slice none 0 0, .int .i64 0, .int .i64 0, .int .i64 0, .int .i64 0, .slice none 0 0, .slice none 0 0, .slice none 0 0, .slice none 0 0, .slice none 0 0])) := below_setRow bW1 (Nat.le_refl _) _
      go_wp2_with (refine wpList_store_row rfl _ _ _ rfl _ _ rfl rfl _ _ HR.out (by kernel_rfl) rfl (by simp [Value.oneCell']) ?_)
      (try simp only [Exit.inBlock, Exit.then])
      refine bodyPost_ret (by simp [results, Try.results6, asAddr, HLD]; try rfl) rfl ?_
      exact ⟨_, by rw [HA.out.1], by rw [HA.out.2]; exact (OT.out _ _).2, HB.out⟩
    | true =>
      have HA : Hid (triB room keep size = true ∧ triA room keep size = triD keep size (newD room)) := by
        have h : triB room keep size = true := by unfold triB; rw [hN, hK]; rfl
        exact ⟨h, by unfold triA; rw [if_pos h]⟩
      go_enter Try.func6, Try.ntmps6
      go_wp2_with fail
      rw [← HW0.out]
      refine (qN.out _ true hN).mono ?_
      rintro e w1 ⟨rfl, hb1⟩
      have b1 := bW0.trans (hb1.mono bW0.size)
      have iR1 : w1.heap[w.heap.size]? = some (.cells #[.bool false, .int .i64 0, .int .i64 0, .int .i64 0, .int .i64 0, .int .i64 0, .slice none 0 0, .slice none 0 0, .slice none 0 0, .int .i64 0, .int .i64 0, .slice none 0 0, .int .i64 0, .int .i64 0, .int .i64 0, .int .i64 0, .slice none 0 0, .slice none 0 0, .slice none 0 0, .slice none 0 0, .slice none 0 0] 31 (0, 0)) := (hb1.block _ zW0).trans HI0.out
      have z1 : w.heap.size < w1.heap.size := by have := hb1.size; omega
      have HI1 : Hid _ := iR1
      have HR : Hid ((w1.alloc (.cells #[.int .i64 x0, .int .i64 x1, .int .i64 x2, .slice none 0 0, .slice none 0 0, .slice none 0 0] 26)).heap[w.heap.size]? = some (.cells #[.bool false, .int .i64 0, .int .i64 0, .int .i64 0, .int .i64 0, .int .i64 0, .slice none 0 0, .slice none 0 0, .slice none 0 0, .int .i64 0, .int .i64 0, .slice none 0 0, .int .i64 0, .int .i64 0, .int .i64 0, .int .i64 0, .slice none 0 0, .slice none 0 0, .slice none 0 0, .slice none 0 0, .slice none 0 0] 31 (0, 0))) := (heap_alloc_old _ _ z1).trans iR1
      have bW1 : Below w.heap.size w (w1.alloc (.cells #[.int .i64 x0, .int .i64 x1, .int .i64 x2, .slice none 0 0, .slice none 0 0, .slice none 0 0] 26)) := b1.alloc b1.size _
      clear hb1 iR1
      go_wp2_with fail
      refine (qK.out _ true hK).mono ?_
      rintro e w2 ⟨rfl, rfl⟩
      have HLD : (loadVar 31 ⟨w.heap.size, 0, none⟩).run Try.prog ((w1.alloc (.cells #[.int .i64 x0, .int .i64 x1, .int .i64 x2, .slice none 0 0, .slice none 0 0, .slice none 0 0] 26)).setRow w.heap.size #[.bool false, .int .i64 keep, .int .i64 size, .int .i64 0, .int .i64 0, .int .i64 0, .slice none 0 0, .slice none 0 0, .slice none 0 0, .int .i64 0, .int .i64 0, .slice none 0 0, .int .i64 0, .int .i64 x0, .int .i64 x1, .int .i64 x2, .slice none 0 0, .slice none 0 0, .slice none 0 0, .slice none 0 0, .slice none 0 0]) = .ok (.agg #[.bool false, .int .i64 keep, .int .i64 size, .int .i64 0, .int .i64 0, .int .i64 0, .slice none 0 0, .slice none 0 0, .slice none 0 0, .int .i64 0, .int .i64 0, .slice none 0 0, .int .i64 0, .int .i64 x0, .int .i64 x1, .int .i64 x2, .slice none 0 0, .slice none 0 0, .slice none 0 0, .slice none 0 0, .slice none 0 0]) ((w1.alloc (.cells #[.int .i64 x0, .int .i64 x1, .int .i64 x2, .slice none 0 0, .slice none 0 0, .slice none 0 0] 26)).setRow w.heap.size #[.bool false, .int .i64 keep, .int .i64 size, .int .i64 0, .int .i64 0, .int .i64 0, .slice none 0 0, .slice none 0 0, .slice none 0 0, .int .i64 0, .int .i64 0, .slice none 0 0, .int .i64 0, .int .i64 x0, .int .i64 x1, .int .i64 x2, .slice none 0 0, .slice none 0 0, .slice none 0 0, .slice none 0 0, .slice none 0 0]) := run_loadVar_row _ _ _ _ _ _ _ (setRow_heap _ _ _ _ _ _ HR.out) Try.underlying31 rfl (by kernel_rfl)
      have HB : Hid (Below w.heap.size w ((w1.alloc (.cells #[.int .i64 x0, .int .i64 x1, .int .i64 x2, .slice none 0 0, .slice none 0 0, .slice none 0 0] 26)).setRow w.heap.size #[.bool false, .int .i64 keep, .int .i64 size, .int .i64 0, .int .i64 0, .int .i64 0, .slice none 0 0, .slice none 0 0, .slice none 0 0, .int .i64 0, .int .i64 0, .slice none 0 0, .int .i64 0, .int .i64 x0, .int .i64 x1, .int .i64 x2, .slice none 0 0, .slice none 0 0, .slice none 0 0, .slice none 0 0, .slice none 0 0])) := below_setRow bW1 (Nat.le_refl _) _
      go_wp2_with (refine wpList_store_row rfl _ _ _ rfl _ _ rfl rfl _ _ HR.out (by kernel_rfl) rfl (by simp [Value.oneCell']) ?_)
      (try simp only [Exit.inBlock, Exit.then])
      refine bodyPost_ret (by simp [results, Try.results6, asAddr, HLD]; try rfl) rfl ?_
      exact ⟨_, by rw [HA.out.1], by rw [HA.out.2]; exact (OT.out _ _).1, HB.out⟩

theorem wd_TrialN : shTrial.wd ≤ 100 := by decide
theorem cntV_TrialN (d : shTrial.D) (h : shTrial.sz d ≤ 1048576) : shTrial.cntV d ≤ 1000000000 := by
  have h1 := shTrial.cnt_le d
  have h2 := shTrial.cntV_le d
  have h3 := wd_TrialN
  have h4 : shTrial.wd * (shTrial.sz d + 1) ≤ 100 * (1048576 + 1) := Nat.mul_le_mul h3 (by omega)
  omega

theorem triA_sz (room keep size : Int) : shTrial.sz (triA room keep size) ≤ 1048576 := by
  unfold triA
  split
  · show 0 + _ ≤ _; exact Nat.le_trans (Nat.le_of_eq (show _ = 0 from rfl)) (Nat.zero_le _)
  · exact Nat.le_trans (Nat.le_of_eq (show _ = 0 from rfl)) (Nat.zero_le _)

theorem trialNew_law (room keep size : Int) (w : World) :
    Calls Try.prog 3 #[.int .i64 room, .int .i64 keep, .int .i64 size] w fun e w' => e = .returned (.bool true) ∧ Below w.heap.size w w' := by
  have hz := triA_sz room keep size
  refine trialNew_over room keep size (triA room keep size) (triB room keep size) w hz (cntV_TrialN _ hz) ?_ ?_
  · intro w'
    refine (specTri_any room keep size w').mono ?_
    rintro e w'' ⟨o, rfl, ho, hb⟩
    exact ⟨o, rfl, ho.reads, hb⟩
  · intro w'
    refine (implTri_any room keep size w').mono ?_
    rintro e w'' ⟨o, rfl, ho, hb⟩
    exact ⟨o, [], rfl, ho, by simp, hb⟩

end Go.Proofs.Ytdmgknmlgipnpaa
