/-
  The marks of the type Disk. By program (mkgen.py).
-/
import Derived.Test.YtdmgknmlgipnpaaTyDisk
import Derived.Test.YtdmgknmlgipnpaaMkB
import Derived.Test.YtdmgknmlgipnpaaMkLink
import Derived.Test.YtdmgknmlgipnpaaMkNode
import Derived.Test.YtdmgknmlgipnpaaMkTurn
namespace Go.Proofs.Ytdmgknmlgipnpaa
open Go.RowKit
set_option linter.unusedVariables false

theorem openO_Disk {w : World} {B : Nat} {cs : List Value} {d : shDisk.D} {F : List Nat} (h : Own shDisk w B cs d F) :
    ∃ a3 n3 c3 F3 a4 n4 c4 F4 a5 n5 c5 F5, cs = [.int .i64 (d.1), .int .i64 (d.2.1), .int .i64 (d.2.2.1), .slice a3 n3 c3, .slice a4 n4 c4, .slice a5 n5 c5] ∧ F = F3 ++ (F4 ++ (F5 ++ ([]))) ∧ Own (.sl shNode) w B [.slice a3 n3 c3] d.2.2.2.1 F3 ∧ Own (.sl shLink) w B [.slice a4 n4 c4] d.2.2.2.2.1 F4 ∧ Own (.sl shTurn) w B [.slice a5 n5 c5] d.2.2.2.2.2.1 F5 := by
  obtain ⟨_, _, G0, _, rfl, rfl, h0, _, _, G1, _, rfl, rfl, h1, _, _, G2, _, rfl, rfl, h2, _, _, G3, _, rfl, rfl, h3, _, _, G4, _, rfl, rfl, h4, _, _, G5, _, rfl, rfl, h5, hE⟩ := h
  obtain ⟨rfl, rfl⟩ := h0
  obtain ⟨rfl, rfl⟩ := h1
  obtain ⟨rfl, rfl⟩ := h2
  obtain ⟨rfl, rfl⟩ := hE
  have g3 := Own.reads (s := (.sl shNode)) h3
  obtain ⟨a3, c3, e3, _⟩ := g3
  subst e3
  have g4 := Own.reads (s := (.sl shLink)) h4
  obtain ⟨a4, c4, e4, _⟩ := g4
  subst e4
  have g5 := Own.reads (s := (.sl shTurn)) h5
  obtain ⟨a5, c5, e5, _⟩ := g5
  subst e5
  exact ⟨a3, _, c3, G3, a4, _, c4, G4, a5, _, c5, G5, rfl, by simp, h3, h4, h5⟩

theorem cnt_Disk (d : shDisk.D) : shDisk.cnt d = 1 + 1 + 1 + Sh.cnt (.sl shNode) d.2.2.2.1 + Sh.cnt (.sl shLink) d.2.2.2.2.1 + Sh.cnt (.sl shTurn) d.2.2.2.2.2.1 := by
  show 1 + (1 + (1 + (Sh.cnt (.sl shNode) d.2.2.2.1 + (Sh.cnt (.sl shLink) d.2.2.2.2.1 + (Sh.cnt (.sl shTurn) d.2.2.2.2.2.1 + (0)))))) = _
  omega

theorem cntV_Disk (d : shDisk.D) : shDisk.cntV d = Sh.cnt (.sl shNode) d.2.2.2.1 + Sh.cnt (.sl shLink) d.2.2.2.2.1 + Sh.cnt (.sl shTurn) d.2.2.2.2.2.1 := by
  show 0 + (0 + (0 + (Sh.cnt (.sl shNode) d.2.2.2.1 + (Sh.cnt (.sl shLink) d.2.2.2.2.1 + (Sh.cnt (.sl shTurn) d.2.2.2.2.2.1 + (0)))))) = _
  omega

set_option maxRecDepth 100000 in
set_option maxHeartbeats 2000000 in
theorem markDisk_own (cs : List Value) (B k : Nat) (d : shDisk.D) (F : List Nat) (w : World) (ho : Own shDisk w B cs d F) (hnd : F.Nodup) (hk0 : 1 ≤ k) (hk : k + shDisk.cntV d ≤ 1000000000000) :
    Calls Try.prog 22 #[.agg cs.toArray, .int .i64 k] w fun e w' => e = .returned (.int .i64 ((k + shDisk.cntV d : Nat) : Int)) ∧ Own shDisk w' B cs (shDisk.mkV d k) F ∧ Touch w w' F := by
  rw [cntV_Disk] at hk ⊢
  obtain ⟨a3, n3, c3, F3, a4, n4, c4, F4, a5, n5, c5, F5, rfl, rfl, o3, o4, o5⟩ := openO_Disk ho
  obtain ⟨x0, e0⟩ : ∃ x : Int, x = d.1 := ⟨_, rfl⟩
  obtain ⟨x1, e1⟩ : ∃ x : Int, x = d.2.1 := ⟨_, rfl⟩
  obtain ⟨x2, e2⟩ : ∃ x : Int, x = d.2.2.1 := ⟨_, rfl⟩
  obtain ⟨C3, hC3⟩ : ∃ C, C = Sh.cnt (.sl shNode) d.2.2.2.1 := ⟨_, rfl⟩
  obtain ⟨C4, hC4⟩ : ∃ C, C = Sh.cnt (.sl shLink) d.2.2.2.2.1 := ⟨_, rfl⟩
  obtain ⟨C5, hC5⟩ : ∃ C, C = Sh.cnt (.sl shTurn) d.2.2.2.2.2.1 := ⟨_, rfl⟩
  rw [← e0, ← e1, ← e2]
  rw [← hC3, ← hC4, ← hC5] at hk ⊢
  have HST : Hid (x0 = d.1 ∧ x1 = d.2.1 ∧ x2 = d.2.2.1 ∧ True) := ⟨e0, e1, e2, trivial⟩
  obtain ⟨k3, hk3⟩ : ∃ k' : Nat, k' = k + C3 := ⟨_, rfl⟩
  have qc3 : Hid (∀ w' : World, Own (.sl shNode) w' B [.slice a3 n3 c3] d.2.2.2.1 F3 → Calls Try.prog 41 #[.slice a3 n3 c3, .int .i64 ((k : Int))] w' fun e w'' => e = .returned (.int .i64 (k3 : Int)) ∧ Own (.sl shNode) w'' B [.slice a3 n3 c3] (Sh.mk (.sl shNode) d.2.2.2.1 (k)) F3 ∧ Touch w' w'' F3) := fun w' h' => by rw [hk3, hC3]; exact markNodeS_own a3 n3 c3 B (k) _ F3 w' h' ((List.nodup_append.1 hnd).1) (by omega) (by rw [← hC3]; omega)
  have HK3 : Hid (k3 = k + C3) := hk3
  have HC3 : Hid (C3 = Sh.cnt (.sl shNode) d.2.2.2.1) := hC3
  obtain ⟨k4, hk4⟩ : ∃ k' : Nat, k' = (k3) + C4 := ⟨_, rfl⟩
  have qc4 : Hid (∀ w' : World, Own (.sl shLink) w' B [.slice a4 n4 c4] d.2.2.2.2.1 F4 → Calls Try.prog 42 #[.slice a4 n4 c4, .int .i64 ((k3 : Int))] w' fun e w'' => e = .returned (.int .i64 (k4 : Int)) ∧ Own (.sl shLink) w'' B [.slice a4 n4 c4] (Sh.mk (.sl shLink) d.2.2.2.2.1 ((k3))) F4 ∧ Touch w' w'' F4) := fun w' h' => by rw [hk4, hC4]; exact markLinkS_own a4 n4 c4 B ((k3)) _ F4 w' h' ((List.nodup_append.1 (List.nodup_append.1 hnd).2.1).1) (by omega) (by rw [← hC4]; omega)
  have HK4 : Hid (k4 = (k3) + C4) := hk4
  have HC4 : Hid (C4 = Sh.cnt (.sl shLink) d.2.2.2.2.1) := hC4
  obtain ⟨k5, hk5⟩ : ∃ k' : Nat, k' = (k4) + C5 := ⟨_, rfl⟩
  have qc5 : Hid (∀ w' : World, Own (.sl shTurn) w' B [.slice a5 n5 c5] d.2.2.2.2.2.1 F5 → Calls Try.prog 43 #[.slice a5 n5 c5, .int .i64 ((k4 : Int))] w' fun e w'' => e = .returned (.int .i64 (k5 : Int)) ∧ Own (.sl shTurn) w'' B [.slice a5 n5 c5] (Sh.mk (.sl shTurn) d.2.2.2.2.2.1 ((k4))) F5 ∧ Touch w' w'' F5) := fun w' h' => by rw [hk5, hC5]; exact markTurnS_own a5 n5 c5 B ((k4)) _ F5 w' h' ((List.nodup_append.1 (List.nodup_append.1 (List.nodup_append.1 hnd).2.1).2.1).1) (by omega) (by rw [← hC5]; omega)
  have HK5 : Hid (k5 = (k4) + C5) := hk5
  have HC5 : Hid (C5 = Sh.cnt (.sl shTurn) d.2.2.2.2.2.1) := hC5
  have HND : Hid ((F3 ++ (F4 ++ (F5 ++ ([])))).Nodup) := hnd
  obtain ⟨W0, hW0⟩ : ∃ W0, W0 = w.alloc (.cells #[.int .i64 x0, .int .i64 x1, .int .i64 x2, .slice a3 n3 c3, .slice a4 n4 c4, .slice a5 n5 c5] 26) := ⟨_, rfl⟩
  have bW0 : Below w.heap.size w W0 := by rw [hW0]; exact (Below.refl _ _).alloc (Nat.le_refl _) _
  have hbx : W0.heap[w.heap.size]? = some (.cells #[.int .i64 x0, .int .i64 x1, .int .i64 x2, .slice a3 n3 c3, .slice a4 n4 c4, .slice a5 n5 c5] 26 (0, 0)) := by rw [hW0]; exact heap_alloc_new w _
  have zW0 : W0.heap.size = w.heap.size + 1 := by rw [hW0]; simp
  have HW0 : Hid (W0 = w.alloc (.cells #[.int .i64 x0, .int .i64 x1, .int .i64 x2, .slice a3 n3 c3, .slice a4 n4 c4, .slice a5 n5 c5] 26)) := hW0
  have HBX : Hid (W0.heap[w.heap.size]? = some (.cells #[.int .i64 x0, .int .i64 x1, .int .i64 x2, .slice a3 n3 c3, .slice a4 n4 c4, .slice a5 n5 c5] 26 (0, 0))) := hbx
  have p0_3 := o3.later bW0
  have LT3 : Hid (∀ y ∈ F3, y < w.heap.size) := fun y hy => (o3.lt y hy).2
  have p0_4 := o4.later bW0
  have LT4 : Hid (∀ y ∈ F4, y < w.heap.size) := fun y hy => (o4.lt y hy).2
  have p0_5 := o5.later bW0
  have LT5 : Hid (∀ y ∈ F5, y < w.heap.size) := fun y hy => (o5.lt y hy).2
  have t0 : Touch w W0 (F3 ++ (F4 ++ (F5 ++ ([])))) := Touch.of_below bW0 _
  clear ho hW0 hbx e0 e1 e2 hk3 hC3 o3 hk4 hC4 o4 hk5 hC5 o5
  go_enter Try.func22, Try.ntmps22
  go_wp2_with fail
  rw [← HW0.out]
  refine (qc3.out _ p0_3).mono ?_
  rintro e w3 ⟨rfl, om3, tq3⟩
  have z3 := tq3.size
  have i3 : w3.heap[w.heap.size]? = some (.cells #[.int .i64 x0, .int .i64 x1, .int .i64 x2, .slice a3 n3 c3, .slice a4 n4 c4, .slice a5 n5 c5] 26 (0, 0)) := (tq3.block _ (lt_heap HBX.out) (fun h => by have := LT3.out _ h; omega)).trans HBX.out
  have p3_3 := om3
  have p3_4 := tq3.own p0_4 (fun y hy hyq => (List.nodup_append.1 HND.out).2.2 y hyq y (List.mem_append_left _ hy) rfl)
  have p3_5 := tq3.own p0_5 (fun y hy hyq => (List.nodup_append.1 HND.out).2.2 y hyq y (List.mem_append_right _ (List.mem_append_left _ hy)) rfl)
  have t3 := t0.trans (tq3.mono fun y hy => (List.mem_append_left _ hy : y ∈ F3 ++ (F4 ++ (F5 ++ ([])))))
  have y3_4 : w3.cell? ⟨w.heap.size, 4, none⟩ = some (.slice a4 n4 c4) := box_cell i3 rfl
  have y3_5 : w3.cell? ⟨w.heap.size, 5, none⟩ = some (.slice a5 n5 c5) := box_cell i3 rfl
  have BX3 : Hid (w3.heap[w.heap.size]? = some (.cells #[.int .i64 x0, .int .i64 x1, .int .i64 x2, .slice a3 n3 c3, .slice a4 n4 c4, .slice a5 n5 c5] 26 (0, 0))) := i3
  clear i3
  go_wp2_with fail
  refine (qc4.out _ p3_4).mono ?_
  rintro e w4 ⟨rfl, om4, tq4⟩
  have z4 := tq4.size
  have i4 : w4.heap[w.heap.size]? = some (.cells #[.int .i64 x0, .int .i64 x1, .int .i64 x2, .slice a3 n3 c3, .slice a4 n4 c4, .slice a5 n5 c5] 26 (0, 0)) := (tq4.block _ (lt_heap BX3.out) (fun h => by have := LT4.out _ h; omega)).trans BX3.out
  have p4_3 := tq4.own p3_3 (fun y hy hyq => (List.nodup_append.1 HND.out).2.2 y hy y (List.mem_append_left _ hyq) rfl)
  have p4_4 := om4
  have p4_5 := tq4.own p3_5 (fun y hy hyq => (List.nodup_append.1 (List.nodup_append.1 HND.out).2.1).2.2 y hyq y (List.mem_append_left _ hy) rfl)
  have t4 := t3.trans (tq4.mono fun y hy => (List.mem_append_right _ (List.mem_append_left _ hy) : y ∈ F3 ++ (F4 ++ (F5 ++ ([])))))
  have y4_5 : w4.cell? ⟨w.heap.size, 5, none⟩ = some (.slice a5 n5 c5) := box_cell i4 rfl
  have BX4 : Hid (w4.heap[w.heap.size]? = some (.cells #[.int .i64 x0, .int .i64 x1, .int .i64 x2, .slice a3 n3 c3, .slice a4 n4 c4, .slice a5 n5 c5] 26 (0, 0))) := i4
  clear i4
  go_wp2_with fail
  refine (qc5.out _ p4_5).mono ?_
  rintro e w5 ⟨rfl, om5, tq5⟩
  have z5 := tq5.size
  have i5 : w5.heap[w.heap.size]? = some (.cells #[.int .i64 x0, .int .i64 x1, .int .i64 x2, .slice a3 n3 c3, .slice a4 n4 c4, .slice a5 n5 c5] 26 (0, 0)) := (tq5.block _ (lt_heap BX4.out) (fun h => by have := LT5.out _ h; omega)).trans BX4.out
  have p5_3 := tq5.own p4_3 (fun y hy hyq => (List.nodup_append.1 HND.out).2.2 y hy y (List.mem_append_right _ (List.mem_append_left _ hyq)) rfl)
  have p5_4 := tq5.own p4_4 (fun y hy hyq => (List.nodup_append.1 (List.nodup_append.1 HND.out).2.1).2.2 y hy y (List.mem_append_left _ hyq) rfl)
  have p5_5 := om5
  have t5 := t4.trans (tq5.mono fun y hy => (List.mem_append_right _ (List.mem_append_right _ (List.mem_append_left _ hy)) : y ∈ F3 ++ (F4 ++ (F5 ++ ([])))))
  have BX5 : Hid (w5.heap[w.heap.size]? = some (.cells #[.int .i64 x0, .int .i64 x1, .int .i64 x2, .slice a3 n3 c3, .slice a4 n4 c4, .slice a5 n5 c5] 26 (0, 0))) := i5
  clear i5
  have HT : Hid ((k5 : Int) = (((k + (C3 + C4 + C5) : Nat)) : Int)) := by have f3 := HK3.out; have f4 := HK4.out; have f5 := HK5.out; show _ = _; omega
  have v3 : Own (.sl shNode) w5 B [.slice a3 n3 c3] (Sh.mk (.sl shNode) d.2.2.2.1 (k)) F3 := by
    have hv := p5_3
    exact hv
  have v4 : Own (.sl shLink) w5 B [.slice a4 n4 c4] (Sh.mk (.sl shLink) d.2.2.2.2.1 (k + Sh.cnt (.sl shNode) d.2.2.2.1)) F4 := by
    have hv := p5_4
    rw [HK3.out, HC3.out] at hv
    exact hv
  have v5 : Own (.sl shTurn) w5 B [.slice a5 n5 c5] (Sh.mk (.sl shTurn) d.2.2.2.2.2.1 (k + Sh.cnt (.sl shNode) d.2.2.2.1 + Sh.cnt (.sl shLink) d.2.2.2.2.1)) F5 := by
    have hv := p5_5
    rw [HK4.out, HC4.out] at hv
    rw [HK3.out, HC3.out] at hv
    exact hv
  have hb : Own shDisk w5 B [.int .i64 (d.1), .int .i64 (d.2.1), .int .i64 (d.2.2.1), .slice a3 n3 c3, .slice a4 n4 c4, .slice a5 n5 c5] (shDisk.mkV d k) (F3 ++ (F4 ++ (F5 ++ ([])))) := own_Disk (w := w5) (B := B) (d := shDisk.mkV d k) v3 v4 v5
  rw [← HST.out.1, ← HST.out.2.1, ← HST.out.2.2.1] at hb
  have HB : Hid (Own shDisk w5 B [.int .i64 x0, .int .i64 x1, .int .i64 x2, .slice a3 n3 c3, .slice a4 n4 c4, .slice a5 n5 c5] (shDisk.mkV d k) (F3 ++ (F4 ++ (F5 ++ ([]))))) := hb
  clear hb v3 v4 v5 p5_3 p5_4 p5_5
  go_wp2
  go_ret
  exact ⟨by rw [← HT.out]; rfl, HB.out, t5⟩

set_option maxRecDepth 100000 in
set_option maxHeartbeats 2000000 in
theorem heldDisk_own (cs : List Value) (B k : Nat) (d : shDisk.D) (F : List Nat) (w : World) (ho : Own shDisk w B cs (shDisk.mkV d k) F) (hnd : F.Nodup) (hk0 : 1 ≤ k) (hk : k + shDisk.cntV d ≤ 1000000000000) :
    Calls Try.prog 25 #[.agg cs.toArray, .int .i64 k] w fun e w' => e = .returned (.int .i64 ((k + shDisk.cntV d : Nat) : Int)) ∧ Below w.heap.size w w' := by
  rw [cntV_Disk] at hk ⊢
  obtain ⟨a3, n3, c3, F3, a4, n4, c4, F4, a5, n5, c5, F5, rfl, rfl, o3, o4, o5⟩ := openO_Disk ho
  obtain ⟨x0, e0⟩ : ∃ x : Int, x = (shDisk.mkV d k).1 := ⟨_, rfl⟩
  obtain ⟨x1, e1⟩ : ∃ x : Int, x = (shDisk.mkV d k).2.1 := ⟨_, rfl⟩
  obtain ⟨x2, e2⟩ : ∃ x : Int, x = (shDisk.mkV d k).2.2.1 := ⟨_, rfl⟩
  obtain ⟨C3, hC3⟩ : ∃ C, C = Sh.cnt (.sl shNode) d.2.2.2.1 := ⟨_, rfl⟩
  obtain ⟨C4, hC4⟩ : ∃ C, C = Sh.cnt (.sl shLink) d.2.2.2.2.1 := ⟨_, rfl⟩
  obtain ⟨C5, hC5⟩ : ∃ C, C = Sh.cnt (.sl shTurn) d.2.2.2.2.2.1 := ⟨_, rfl⟩
  rw [← e0, ← e1, ← e2]
  rw [← hC3, ← hC4, ← hC5] at hk ⊢
  obtain ⟨k3, hk3⟩ : ∃ k' : Nat, k' = k + C3 := ⟨_, rfl⟩
  have ou3 : Own (.sl shNode) w B [.slice a3 n3 c3] (Sh.mk (.sl shNode) d.2.2.2.1 (k)) F3 := by
    have hv : Own (.sl shNode) w B [.slice a3 n3 c3] (Sh.mk (.sl shNode) d.2.2.2.1 (k)) F3 := o3
    exact hv
  have qc3 : Hid (∀ w' : World, Below w.heap.size w w' → Calls Try.prog 45 #[.slice a3 n3 c3, .int .i64 ((k : Int))] w' fun e w'' => e = .returned (.int .i64 (k3 : Int)) ∧ Below w'.heap.size w' w'') := fun w' h' => by rw [hk3, hC3]; exact heldNodeS_own a3 n3 c3 B (k) _ F3 w' (ou3.later h') ((List.nodup_append.1 hnd).1) (by omega) (by rw [← hC3]; omega)
  have nn3 : ¬ ((k3 : Int) < 0) := by omega
  have HK3 : Hid (k3 = k + C3) := hk3
  have HC3 : Hid (C3 = Sh.cnt (.sl shNode) d.2.2.2.1) := hC3
  obtain ⟨k4, hk4⟩ : ∃ k' : Nat, k' = (k3) + C4 := ⟨_, rfl⟩
  have ou4 : Own (.sl shLink) w B [.slice a4 n4 c4] (Sh.mk (.sl shLink) d.2.2.2.2.1 ((k3))) F4 := by
    have hv : Own (.sl shLink) w B [.slice a4 n4 c4] (Sh.mk (.sl shLink) d.2.2.2.2.1 (k + Sh.cnt (.sl shNode) d.2.2.2.1)) F4 := o4
    rw [show k + Sh.cnt (.sl shNode) d.2.2.2.1 = (k3) by have f3 := hk3; have g3 := hC3; omega] at hv
    exact hv
  have qc4 : Hid (∀ w' : World, Below w.heap.size w w' → Calls Try.prog 46 #[.slice a4 n4 c4, .int .i64 ((k3 : Int))] w' fun e w'' => e = .returned (.int .i64 (k4 : Int)) ∧ Below w'.heap.size w' w'') := fun w' h' => by rw [hk4, hC4]; exact heldLinkS_own a4 n4 c4 B ((k3)) _ F4 w' (ou4.later h') ((List.nodup_append.1 (List.nodup_append.1 hnd).2.1).1) (by omega) (by rw [← hC4]; omega)
  have nn4 : ¬ ((k4 : Int) < 0) := by omega
  have HK4 : Hid (k4 = (k3) + C4) := hk4
  have HC4 : Hid (C4 = Sh.cnt (.sl shLink) d.2.2.2.2.1) := hC4
  obtain ⟨k5, hk5⟩ : ∃ k' : Nat, k' = (k4) + C5 := ⟨_, rfl⟩
  have ou5 : Own (.sl shTurn) w B [.slice a5 n5 c5] (Sh.mk (.sl shTurn) d.2.2.2.2.2.1 ((k4))) F5 := by
    have hv : Own (.sl shTurn) w B [.slice a5 n5 c5] (Sh.mk (.sl shTurn) d.2.2.2.2.2.1 (k + Sh.cnt (.sl shNode) d.2.2.2.1 + Sh.cnt (.sl shLink) d.2.2.2.2.1)) F5 := o5
    rw [show k + Sh.cnt (.sl shNode) d.2.2.2.1 + Sh.cnt (.sl shLink) d.2.2.2.2.1 = (k4) by have f3 := hk3; have g3 := hC3; have f4 := hk4; have g4 := hC4; omega] at hv
    exact hv
  have qc5 : Hid (∀ w' : World, Below w.heap.size w w' → Calls Try.prog 47 #[.slice a5 n5 c5, .int .i64 ((k4 : Int))] w' fun e w'' => e = .returned (.int .i64 (k5 : Int)) ∧ Below w'.heap.size w' w'') := fun w' h' => by rw [hk5, hC5]; exact heldTurnS_own a5 n5 c5 B ((k4)) _ F5 w' (ou5.later h') ((List.nodup_append.1 (List.nodup_append.1 (List.nodup_append.1 hnd).2.1).2.1).1) (by omega) (by rw [← hC5]; omega)
  have nn5 : ¬ ((k5 : Int) < 0) := by omega
  have HK5 : Hid (k5 = (k4) + C5) := hk5
  have HC5 : Hid (C5 = Sh.cnt (.sl shTurn) d.2.2.2.2.2.1) := hC5
  obtain ⟨W0, hW0⟩ : ∃ W0, W0 = w.alloc (.cells #[.int .i64 x0, .int .i64 x1, .int .i64 x2, .slice a3 n3 c3, .slice a4 n4 c4, .slice a5 n5 c5] 26) := ⟨_, rfl⟩
  have bW0 : Below w.heap.size w W0 := by rw [hW0]; exact (Below.refl _ _).alloc (Nat.le_refl _) _
  have hbx : W0.heap[w.heap.size]? = some (.cells #[.int .i64 x0, .int .i64 x1, .int .i64 x2, .slice a3 n3 c3, .slice a4 n4 c4, .slice a5 n5 c5] 26 (0, 0)) := by rw [hW0]; exact heap_alloc_new w _
  have zW0 : W0.heap.size = w.heap.size + 1 := by rw [hW0]; simp
  have HW0 : Hid (W0 = w.alloc (.cells #[.int .i64 x0, .int .i64 x1, .int .i64 x2, .slice a3 n3 c3, .slice a4 n4 c4, .slice a5 n5 c5] 26)) := hW0
  have HBX : Hid (W0.heap[w.heap.size]? = some (.cells #[.int .i64 x0, .int .i64 x1, .int .i64 x2, .slice a3 n3 c3, .slice a4 n4 c4, .slice a5 n5 c5] 26 (0, 0))) := hbx
  clear ho hW0 hbx e0 e1 e2 hk3 hC3 o3 hk4 hC4 o4 hk5 hC5 o5 ou3 ou4 ou5
  go_enter Try.func25, Try.ntmps25
  go_wp2_with fail
  rw [← HW0.out]
  refine (qc3.out _ bW0).mono ?_
  rintro e w3 ⟨rfl, hb3⟩
  have b3 := bW0.trans (hb3.mono bW0.size)
  have z3 := hb3.size
  have i3 : w3.heap[w.heap.size]? = some (.cells #[.int .i64 x0, .int .i64 x1, .int .i64 x2, .slice a3 n3 c3, .slice a4 n4 c4, .slice a5 n5 c5] 26 (0, 0)) := (hb3.block _ (lt_heap HBX.out)).trans HBX.out
  clear hb3
  have y3_4 : w3.cell? ⟨w.heap.size, 4, none⟩ = some (.slice a4 n4 c4) := box_cell i3 rfl
  have y3_5 : w3.cell? ⟨w.heap.size, 5, none⟩ = some (.slice a5 n5 c5) := box_cell i3 rfl
  have BX3 : Hid (w3.heap[w.heap.size]? = some (.cells #[.int .i64 x0, .int .i64 x1, .int .i64 x2, .slice a3 n3 c3, .slice a4 n4 c4, .slice a5 n5 c5] 26 (0, 0))) := i3
  clear i3
  go_wp2_with fail
  refine (qc4.out _ b3).mono ?_
  rintro e w4 ⟨rfl, hb4⟩
  have b4 := b3.trans (hb4.mono b3.size)
  have z4 := hb4.size
  have i4 : w4.heap[w.heap.size]? = some (.cells #[.int .i64 x0, .int .i64 x1, .int .i64 x2, .slice a3 n3 c3, .slice a4 n4 c4, .slice a5 n5 c5] 26 (0, 0)) := (hb4.block _ (lt_heap BX3.out)).trans BX3.out
  clear hb4
  have y4_5 : w4.cell? ⟨w.heap.size, 5, none⟩ = some (.slice a5 n5 c5) := box_cell i4 rfl
  have BX4 : Hid (w4.heap[w.heap.size]? = some (.cells #[.int .i64 x0, .int .i64 x1, .int .i64 x2, .slice a3 n3 c3, .slice a4 n4 c4, .slice a5 n5 c5] 26 (0, 0))) := i4
  clear i4
  go_wp2_with fail
  refine (qc5.out _ b4).mono ?_
  rintro e w5 ⟨rfl, hb5⟩
  have b5 := b4.trans (hb5.mono b4.size)
  have z5 := hb5.size
  have i5 : w5.heap[w.heap.size]? = some (.cells #[.int .i64 x0, .int .i64 x1, .int .i64 x2, .slice a3 n3 c3, .slice a4 n4 c4, .slice a5 n5 c5] 26 (0, 0)) := (hb5.block _ (lt_heap BX4.out)).trans BX4.out
  clear hb5
  have BX5 : Hid (w5.heap[w.heap.size]? = some (.cells #[.int .i64 x0, .int .i64 x1, .int .i64 x2, .slice a3 n3 c3, .slice a4 n4 c4, .slice a5 n5 c5] 26 (0, 0))) := i5
  clear i5
  have HT : Hid ((k5 : Int) = (((k + (C3 + C4 + C5) : Nat)) : Int)) := by have f3 := HK3.out; have f4 := HK4.out; have f5 := HK5.out; show _ = _; omega
  go_wp2
  go_ret
  exact ⟨by rw [← HT.out]; rfl, b5⟩

end Go.Proofs.Ytdmgknmlgipnpaa
