/-
  The marks of the type Trial, which has structs among its fields. By program (mkgen2.py).
-/
import Derived.Test.YtdmgknmlgipnpaaTyTrial
import Derived.Test.YtdmgknmlgipnpaaMkB
import Derived.Test.YtdmgknmlgipnpaaMkDisk
import Derived.Test.YtdmgknmlgipnpaaMkEntry
import Derived.Test.YtdmgknmlgipnpaaMkStore
namespace Go.Proofs.Ytdmgknmlgipnpaa
open Go.RowKit
set_option linter.unusedVariables false

theorem openO_Trial {w : World} {B : Nat} {cs : List Value} {d : shTrial.D} {F : List Nat} (h : Own shTrial w B cs d F) :
    ∃ a6 n6 c6 a7 n7 c7 a8 n8 c8 a11 n11 c11 F3 a16 n16 c16 a17 n17 c17 a18 n18 c18 F4 a19 n19 c19 F5 a20 n20 c20 F6, cs = [.bool (d.1), .int .i64 (d.2.1), .int .i64 (d.2.2.1), .int .i64 (d.2.2.2.1.1.1), .int .i64 (d.2.2.2.1.1.2.1), .int .i64 (d.2.2.2.1.1.2.2.1), .slice a6 n6 c6, .slice a7 n7 c7, .slice a8 n8 c8, .int .i64 (d.2.2.2.1.2.1), .int .i64 (d.2.2.2.1.2.2.1), .slice a11 n11 c11, .int .i64 (d.2.2.2.1.2.2.2.2.1), .int .i64 (d.2.2.2.2.1.1), .int .i64 (d.2.2.2.2.1.2.1), .int .i64 (d.2.2.2.2.1.2.2.1), .slice a16 n16 c16, .slice a17 n17 c17, .slice a18 n18 c18, .slice a19 n19 c19, .slice a20 n20 c20] ∧ F = F3 ++ (F4 ++ (F5 ++ (F6 ++ ([])))) ∧ Own shStore w B [.int .i64 (d.2.2.2.1.1.1), .int .i64 (d.2.2.2.1.1.2.1), .int .i64 (d.2.2.2.1.1.2.2.1), .slice a6 n6 c6, .slice a7 n7 c7, .slice a8 n8 c8, .int .i64 (d.2.2.2.1.2.1), .int .i64 (d.2.2.2.1.2.2.1), .slice a11 n11 c11, .int .i64 (d.2.2.2.1.2.2.2.2.1)] d.2.2.2.1 F3 ∧ Own shDisk w B [.int .i64 (d.2.2.2.2.1.1), .int .i64 (d.2.2.2.2.1.2.1), .int .i64 (d.2.2.2.2.1.2.2.1), .slice a16 n16 c16, .slice a17 n17 c17, .slice a18 n18 c18] d.2.2.2.2.1 F4 ∧ Own (.sl shEntry) w B [.slice a19 n19 c19] d.2.2.2.2.2.1 F5 ∧ Own (.sl shEntry) w B [.slice a20 n20 c20] d.2.2.2.2.2.2.1 F6 := by
  obtain ⟨_, _, G0, _, rfl, rfl, h0, _, _, G1, _, rfl, rfl, h1, _, _, G2, _, rfl, rfl, h2, _, _, G3, _, rfl, rfl, h3, _, _, G4, _, rfl, rfl, h4, _, _, G5, _, rfl, rfl, h5, _, _, G6, _, rfl, rfl, h6, hE⟩ := h
  obtain ⟨rfl, rfl⟩ := h0
  obtain ⟨rfl, rfl⟩ := h1
  obtain ⟨rfl, rfl⟩ := h2
  obtain ⟨rfl, rfl⟩ := hE
  have g3 := Own.reads (s := shStore) h3
  obtain ⟨a6, n6, c6, a7, n7, c7, a8, n8, c8, a11, n11, c11, e3, _⟩ := open_Store g3
  subst e3
  have g4 := Own.reads (s := shDisk) h4
  obtain ⟨a16, n16, c16, a17, n17, c17, a18, n18, c18, e4, _⟩ := open_Disk g4
  subst e4
  have g5 := Own.reads (s := (.sl shEntry)) h5
  obtain ⟨a19, c19, e5, _⟩ := g5
  subst e5
  have g6 := Own.reads (s := (.sl shEntry)) h6
  obtain ⟨a20, c20, e6, _⟩ := g6
  subst e6
  exact ⟨a6, n6, c6, a7, n7, c7, a8, n8, c8, a11, n11, c11, G3, a16, n16, c16, a17, n17, c17, a18, n18, c18, G4, a19, _, c19, G5, a20, _, c20, G6, rfl, by simp, h3, h4, h5, h6⟩

theorem cntV_Trial (d : shTrial.D) : shTrial.cntV d = Sh.cntV shStore d.2.2.2.1 + Sh.cntV shDisk d.2.2.2.2.1 + Sh.cnt (.sl shEntry) d.2.2.2.2.2.1 + Sh.cnt (.sl shEntry) d.2.2.2.2.2.2.1 := by
  show 0 + (0 + (0 + (Sh.cntV shStore d.2.2.2.1 + (Sh.cntV shDisk d.2.2.2.2.1 + (Sh.cnt (.sl shEntry) d.2.2.2.2.2.1 + (Sh.cnt (.sl shEntry) d.2.2.2.2.2.2.1 + (0))))))) = _
  omega

set_option maxRecDepth 100000 in
set_option maxHeartbeats 2000000 in
theorem markTrial_own (cs : List Value) (B k : Nat) (d : shTrial.D) (F : List Nat) (w : World) (ho : Own shTrial w B cs d F) (hnd : F.Nodup) (hk0 : 1 ≤ k) (hk : k + shTrial.cntV d ≤ 1000000000000) :
    Calls Try.prog 8 #[.agg cs.toArray, .int .i64 k] w fun e w' => e = .returned (.int .i64 ((k + shTrial.cntV d : Nat) : Int)) ∧ Own shTrial w' B cs (shTrial.mkV d k) F ∧ Touch w w' F := by
  rw [cntV_Trial] at hk ⊢
  obtain ⟨a6, n6, c6, a7, n7, c7, a8, n8, c8, a11, n11, c11, F3, a16, n16, c16, a17, n17, c17, a18, n18, c18, F4, a19, n19, c19, F5, a20, n20, c20, F6, rfl, rfl, o3, o4, o5, o6⟩ := openO_Trial ho
  obtain ⟨x0, e0⟩ : ∃ x : Bool, x = d.1 := ⟨_, rfl⟩
  obtain ⟨x1, e1⟩ : ∃ x : Int, x = d.2.1 := ⟨_, rfl⟩
  obtain ⟨x2, e2⟩ : ∃ x : Int, x = d.2.2.1 := ⟨_, rfl⟩
  obtain ⟨x3, e3⟩ : ∃ x : Int, x = d.2.2.2.1.1.1 := ⟨_, rfl⟩
  obtain ⟨x4, e4⟩ : ∃ x : Int, x = d.2.2.2.1.1.2.1 := ⟨_, rfl⟩
  obtain ⟨x5, e5⟩ : ∃ x : Int, x = d.2.2.2.1.1.2.2.1 := ⟨_, rfl⟩
  obtain ⟨x9, e9⟩ : ∃ x : Int, x = d.2.2.2.1.2.1 := ⟨_, rfl⟩
  obtain ⟨x10, e10⟩ : ∃ x : Int, x = d.2.2.2.1.2.2.1 := ⟨_, rfl⟩
  obtain ⟨x12, e12⟩ : ∃ x : Int, x = d.2.2.2.1.2.2.2.2.1 := ⟨_, rfl⟩
  obtain ⟨x13, e13⟩ : ∃ x : Int, x = d.2.2.2.2.1.1 := ⟨_, rfl⟩
  obtain ⟨x14, e14⟩ : ∃ x : Int, x = d.2.2.2.2.1.2.1 := ⟨_, rfl⟩
  obtain ⟨x15, e15⟩ : ∃ x : Int, x = d.2.2.2.2.1.2.2.1 := ⟨_, rfl⟩
  obtain ⟨C3, hC3⟩ : ∃ C, C = Sh.cntV shStore d.2.2.2.1 := ⟨_, rfl⟩
  obtain ⟨C4, hC4⟩ : ∃ C, C = Sh.cntV shDisk d.2.2.2.2.1 := ⟨_, rfl⟩
  obtain ⟨C5, hC5⟩ : ∃ C, C = Sh.cnt (.sl shEntry) d.2.2.2.2.2.1 := ⟨_, rfl⟩
  obtain ⟨C6, hC6⟩ : ∃ C, C = Sh.cnt (.sl shEntry) d.2.2.2.2.2.2.1 := ⟨_, rfl⟩
  replace o3 : Own shStore w B [.int .i64 x3, .int .i64 x4, .int .i64 x5, .slice a6 n6 c6, .slice a7 n7 c7, .slice a8 n8 c8, .int .i64 x9, .int .i64 x10, .slice a11 n11 c11, .int .i64 x12] d.2.2.2.1 F3 := by rw [e3, e4, e5, e9, e10, e12]; exact o3
  replace o4 : Own shDisk w B [.int .i64 x13, .int .i64 x14, .int .i64 x15, .slice a16 n16 c16, .slice a17 n17 c17, .slice a18 n18 c18] d.2.2.2.2.1 F4 := by rw [e13, e14, e15]; exact o4
  rw [← e0, ← e1, ← e2, ← e3, ← e4, ← e5, ← e9, ← e10, ← e12, ← e13, ← e14, ← e15]
  rw [← hC3, ← hC4, ← hC5, ← hC6] at hk ⊢
  have HST : Hid (x0 = d.1 ∧ x1 = d.2.1 ∧ x2 = d.2.2.1 ∧ x3 = d.2.2.2.1.1.1 ∧ x4 = d.2.2.2.1.1.2.1 ∧ x5 = d.2.2.2.1.1.2.2.1 ∧ x9 = d.2.2.2.1.2.1 ∧ x10 = d.2.2.2.1.2.2.1 ∧ x12 = d.2.2.2.1.2.2.2.2.1 ∧ x13 = d.2.2.2.2.1.1 ∧ x14 = d.2.2.2.2.1.2.1 ∧ x15 = d.2.2.2.2.1.2.2.1 ∧ True) := ⟨e0, e1, e2, e3, e4, e5, e9, e10, e12, e13, e14, e15, trivial⟩
  obtain ⟨k3, hk3⟩ : ∃ k' : Nat, k' = k + C3 := ⟨_, rfl⟩
  have qc3 : Hid (∀ w' : World, Own shStore w' B [.int .i64 x3, .int .i64 x4, .int .i64 x5, .slice a6 n6 c6, .slice a7 n7 c7, .slice a8 n8 c8, .int .i64 x9, .int .i64 x10, .slice a11 n11 c11, .int .i64 x12] d.2.2.2.1 F3 → Calls Try.prog 21 #[.agg #[.int .i64 x3, .int .i64 x4, .int .i64 x5, .slice a6 n6 c6, .slice a7 n7 c7, .slice a8 n8 c8, .int .i64 x9, .int .i64 x10, .slice a11 n11 c11, .int .i64 x12], .int .i64 ((k : Int))] w' fun e w'' => e = .returned (.int .i64 (k3 : Int)) ∧ Own shStore w'' B [.int .i64 x3, .int .i64 x4, .int .i64 x5, .slice a6 n6 c6, .slice a7 n7 c7, .slice a8 n8 c8, .int .i64 x9, .int .i64 x10, .slice a11 n11 c11, .int .i64 x12] (Sh.mkV shStore d.2.2.2.1 (k)) F3 ∧ Touch w' w'' F3) := fun w' h' => by rw [hk3, hC3]; exact markStore_own _ B (k) _ F3 w' h' ((List.nodup_append.1 hnd).1) (by omega) (by rw [← hC3]; omega)
  have HK3 : Hid (k3 = k + C3) := hk3
  have HC3 : Hid (C3 = Sh.cntV shStore d.2.2.2.1) := hC3
  obtain ⟨k4, hk4⟩ : ∃ k' : Nat, k' = (k3) + C4 := ⟨_, rfl⟩
  have qc4 : Hid (∀ w' : World, Own shDisk w' B [.int .i64 x13, .int .i64 x14, .int .i64 x15, .slice a16 n16 c16, .slice a17 n17 c17, .slice a18 n18 c18] d.2.2.2.2.1 F4 → Calls Try.prog 22 #[.agg #[.int .i64 x13, .int .i64 x14, .int .i64 x15, .slice a16 n16 c16, .slice a17 n17 c17, .slice a18 n18 c18], .int .i64 ((k3 : Int))] w' fun e w'' => e = .returned (.int .i64 (k4 : Int)) ∧ Own shDisk w'' B [.int .i64 x13, .int .i64 x14, .int .i64 x15, .slice a16 n16 c16, .slice a17 n17 c17, .slice a18 n18 c18] (Sh.mkV shDisk d.2.2.2.2.1 ((k3))) F4 ∧ Touch w' w'' F4) := fun w' h' => by rw [hk4, hC4]; exact markDisk_own _ B ((k3)) _ F4 w' h' ((List.nodup_append.1 (List.nodup_append.1 hnd).2.1).1) (by omega) (by rw [← hC4]; omega)
  have HK4 : Hid (k4 = (k3) + C4) := hk4
  have HC4 : Hid (C4 = Sh.cntV shDisk d.2.2.2.2.1) := hC4
  obtain ⟨k5, hk5⟩ : ∃ k' : Nat, k' = (k4) + C5 := ⟨_, rfl⟩
  have qc5 : Hid (∀ w' : World, Own (.sl shEntry) w' B [.slice a19 n19 c19] d.2.2.2.2.2.1 F5 → Calls Try.prog 23 #[.slice a19 n19 c19, .int .i64 ((k4 : Int))] w' fun e w'' => e = .returned (.int .i64 (k5 : Int)) ∧ Own (.sl shEntry) w'' B [.slice a19 n19 c19] (Sh.mk (.sl shEntry) d.2.2.2.2.2.1 ((k4))) F5 ∧ Touch w' w'' F5) := fun w' h' => by rw [hk5, hC5]; exact markEntryS_own a19 n19 c19 B ((k4)) _ F5 w' h' ((List.nodup_append.1 (List.nodup_append.1 (List.nodup_append.1 hnd).2.1).2.1).1) (by omega) (by rw [← hC5]; omega)
  have HK5 : Hid (k5 = (k4) + C5) := hk5
  have HC5 : Hid (C5 = Sh.cnt (.sl shEntry) d.2.2.2.2.2.1) := hC5
  obtain ⟨k6, hk6⟩ : ∃ k' : Nat, k' = (k5) + C6 := ⟨_, rfl⟩
  have qc6 : Hid (∀ w' : World, Own (.sl shEntry) w' B [.slice a20 n20 c20] d.2.2.2.2.2.2.1 F6 → Calls Try.prog 23 #[.slice a20 n20 c20, .int .i64 ((k5 : Int))] w' fun e w'' => e = .returned (.int .i64 (k6 : Int)) ∧ Own (.sl shEntry) w'' B [.slice a20 n20 c20] (Sh.mk (.sl shEntry) d.2.2.2.2.2.2.1 ((k5))) F6 ∧ Touch w' w'' F6) := fun w' h' => by rw [hk6, hC6]; exact markEntryS_own a20 n20 c20 B ((k5)) _ F6 w' h' ((List.nodup_append.1 (List.nodup_append.1 (List.nodup_append.1 (List.nodup_append.1 hnd).2.1).2.1).2.1).1) (by omega) (by rw [← hC6]; omega)
  have HK6 : Hid (k6 = (k5) + C6) := hk6
  have HC6 : Hid (C6 = Sh.cnt (.sl shEntry) d.2.2.2.2.2.2.1) := hC6
  have HND : Hid ((F3 ++ (F4 ++ (F5 ++ (F6 ++ ([]))))).Nodup) := hnd
  obtain ⟨W0, hW0⟩ : ∃ W0, W0 = w.alloc (.cells #[.bool x0, .int .i64 x1, .int .i64 x2, .int .i64 x3, .int .i64 x4, .int .i64 x5, .slice a6 n6 c6, .slice a7 n7 c7, .slice a8 n8 c8, .int .i64 x9, .int .i64 x10, .slice a11 n11 c11, .int .i64 x12, .int .i64 x13, .int .i64 x14, .int .i64 x15, .slice a16 n16 c16, .slice a17 n17 c17, .slice a18 n18 c18, .slice a19 n19 c19, .slice a20 n20 c20] 31) := ⟨_, rfl⟩
  have bW0 : Below w.heap.size w W0 := by rw [hW0]; exact (Below.refl _ _).alloc (Nat.le_refl _) _
  have hbx : W0.heap[w.heap.size]? = some (.cells #[.bool x0, .int .i64 x1, .int .i64 x2, .int .i64 x3, .int .i64 x4, .int .i64 x5, .slice a6 n6 c6, .slice a7 n7 c7, .slice a8 n8 c8, .int .i64 x9, .int .i64 x10, .slice a11 n11 c11, .int .i64 x12, .int .i64 x13, .int .i64 x14, .int .i64 x15, .slice a16 n16 c16, .slice a17 n17 c17, .slice a18 n18 c18, .slice a19 n19 c19, .slice a20 n20 c20] 31 (0, 0)) := by rw [hW0]; exact heap_alloc_new w _
  have zW0 : W0.heap.size = w.heap.size + 1 := by rw [hW0]; simp
  have HW0 : Hid (W0 = w.alloc (.cells #[.bool x0, .int .i64 x1, .int .i64 x2, .int .i64 x3, .int .i64 x4, .int .i64 x5, .slice a6 n6 c6, .slice a7 n7 c7, .slice a8 n8 c8, .int .i64 x9, .int .i64 x10, .slice a11 n11 c11, .int .i64 x12, .int .i64 x13, .int .i64 x14, .int .i64 x15, .slice a16 n16 c16, .slice a17 n17 c17, .slice a18 n18 c18, .slice a19 n19 c19, .slice a20 n20 c20] 31)) := hW0
  have HBX : Hid (W0.heap[w.heap.size]? = some (.cells #[.bool x0, .int .i64 x1, .int .i64 x2, .int .i64 x3, .int .i64 x4, .int .i64 x5, .slice a6 n6 c6, .slice a7 n7 c7, .slice a8 n8 c8, .int .i64 x9, .int .i64 x10, .slice a11 n11 c11, .int .i64 x12, .int .i64 x13, .int .i64 x14, .int .i64 x15, .slice a16 n16 c16, .slice a17 n17 c17, .slice a18 n18 c18, .slice a19 n19 c19, .slice a20 n20 c20] 31 (0, 0))) := hbx
  have p0_3 := o3.later bW0
  have LT3 : Hid (∀ y ∈ F3, y < w.heap.size) := fun y hy => (o3.lt y hy).2
  have p0_4 := o4.later bW0
  have LT4 : Hid (∀ y ∈ F4, y < w.heap.size) := fun y hy => (o4.lt y hy).2
  have p0_5 := o5.later bW0
  have LT5 : Hid (∀ y ∈ F5, y < w.heap.size) := fun y hy => (o5.lt y hy).2
  have p0_6 := o6.later bW0
  have LT6 : Hid (∀ y ∈ F6, y < w.heap.size) := fun y hy => (o6.lt y hy).2
  have t0 : Touch w W0 (F3 ++ (F4 ++ (F5 ++ (F6 ++ ([]))))) := Touch.of_below bW0 _
  clear ho hW0 hbx e0 e1 e2 e3 e4 e5 e9 e10 e12 e13 e14 e15 hk3 hC3 o3 hk4 hC4 o4 hk5 hC5 o5 hk6 hC6 o6
  go_enter Try.func8, Try.ntmps8
  go_wp2_with fail
  rw [← HW0.out]
  refine (qc3.out _ p0_3).mono ?_
  rintro e w3 ⟨rfl, om3, tq3⟩
  have z3 := tq3.size
  have i3 : w3.heap[w.heap.size]? = some (.cells #[.bool x0, .int .i64 x1, .int .i64 x2, .int .i64 x3, .int .i64 x4, .int .i64 x5, .slice a6 n6 c6, .slice a7 n7 c7, .slice a8 n8 c8, .int .i64 x9, .int .i64 x10, .slice a11 n11 c11, .int .i64 x12, .int .i64 x13, .int .i64 x14, .int .i64 x15, .slice a16 n16 c16, .slice a17 n17 c17, .slice a18 n18 c18, .slice a19 n19 c19, .slice a20 n20 c20] 31 (0, 0)) := (tq3.block _ (lt_heap HBX.out) (fun h => by have := LT3.out _ h; omega)).trans HBX.out
  have p3_3 := om3
  have p3_4 := tq3.own p0_4 (fun y hy hyq => (List.nodup_append.1 HND.out).2.2 y hyq y (List.mem_append_left _ hy) rfl)
  have p3_5 := tq3.own p0_5 (fun y hy hyq => (List.nodup_append.1 HND.out).2.2 y hyq y (List.mem_append_right _ (List.mem_append_left _ hy)) rfl)
  have p3_6 := tq3.own p0_6 (fun y hy hyq => (List.nodup_append.1 HND.out).2.2 y hyq y (List.mem_append_right _ (List.mem_append_right _ (List.mem_append_left _ hy))) rfl)
  have t3 := t0.trans (tq3.mono fun y hy => (List.mem_append_left _ hy : y ∈ F3 ++ (F4 ++ (F5 ++ (F6 ++ ([]))))))
  have y3_13 : w3.cell? ⟨w.heap.size, 13, none⟩ = some (.int .i64 x13) := box_cell i3 rfl
  have y3_14 : w3.cell? ⟨w.heap.size, 14, none⟩ = some (.int .i64 x14) := box_cell i3 rfl
  have y3_15 : w3.cell? ⟨w.heap.size, 15, none⟩ = some (.int .i64 x15) := box_cell i3 rfl
  have y3_16 : w3.cell? ⟨w.heap.size, 16, none⟩ = some (.slice a16 n16 c16) := box_cell i3 rfl
  have y3_17 : w3.cell? ⟨w.heap.size, 17, none⟩ = some (.slice a17 n17 c17) := box_cell i3 rfl
  have y3_18 : w3.cell? ⟨w.heap.size, 18, none⟩ = some (.slice a18 n18 c18) := box_cell i3 rfl
  have y3_19 : w3.cell? ⟨w.heap.size, 19, none⟩ = some (.slice a19 n19 c19) := box_cell i3 rfl
  have y3_20 : w3.cell? ⟨w.heap.size, 20, none⟩ = some (.slice a20 n20 c20) := box_cell i3 rfl
  have BX3 : Hid (w3.heap[w.heap.size]? = some (.cells #[.bool x0, .int .i64 x1, .int .i64 x2, .int .i64 x3, .int .i64 x4, .int .i64 x5, .slice a6 n6 c6, .slice a7 n7 c7, .slice a8 n8 c8, .int .i64 x9, .int .i64 x10, .slice a11 n11 c11, .int .i64 x12, .int .i64 x13, .int .i64 x14, .int .i64 x15, .slice a16 n16 c16, .slice a17 n17 c17, .slice a18 n18 c18, .slice a19 n19 c19, .slice a20 n20 c20] 31 (0, 0))) := i3
  clear i3
  go_wp2_with fail
  refine (qc4.out _ p3_4).mono ?_
  rintro e w4 ⟨rfl, om4, tq4⟩
  have z4 := tq4.size
  have i4 : w4.heap[w.heap.size]? = some (.cells #[.bool x0, .int .i64 x1, .int .i64 x2, .int .i64 x3, .int .i64 x4, .int .i64 x5, .slice a6 n6 c6, .slice a7 n7 c7, .slice a8 n8 c8, .int .i64 x9, .int .i64 x10, .slice a11 n11 c11, .int .i64 x12, .int .i64 x13, .int .i64 x14, .int .i64 x15, .slice a16 n16 c16, .slice a17 n17 c17, .slice a18 n18 c18, .slice a19 n19 c19, .slice a20 n20 c20] 31 (0, 0)) := (tq4.block _ (lt_heap BX3.out) (fun h => by have := LT4.out _ h; omega)).trans BX3.out
  have p4_3 := tq4.own p3_3 (fun y hy hyq => (List.nodup_append.1 HND.out).2.2 y hy y (List.mem_append_left _ hyq) rfl)
  have p4_4 := om4
  have p4_5 := tq4.own p3_5 (fun y hy hyq => (List.nodup_append.1 (List.nodup_append.1 HND.out).2.1).2.2 y hyq y (List.mem_append_left _ hy) rfl)
  have p4_6 := tq4.own p3_6 (fun y hy hyq => (List.nodup_append.1 (List.nodup_append.1 HND.out).2.1).2.2 y hyq y (List.mem_append_right _ (List.mem_append_left _ hy)) rfl)
  have t4 := t3.trans (tq4.mono fun y hy => (List.mem_append_right _ (List.mem_append_left _ hy) : y ∈ F3 ++ (F4 ++ (F5 ++ (F6 ++ ([]))))))
  have y4_19 : w4.cell? ⟨w.heap.size, 19, none⟩ = some (.slice a19 n19 c19) := box_cell i4 rfl
  have y4_20 : w4.cell? ⟨w.heap.size, 20, none⟩ = some (.slice a20 n20 c20) := box_cell i4 rfl
  have BX4 : Hid (w4.heap[w.heap.size]? = some (.cells #[.bool x0, .int .i64 x1, .int .i64 x2, .int .i64 x3, .int .i64 x4, .int .i64 x5, .slice a6 n6 c6, .slice a7 n7 c7, .slice a8 n8 c8, .int .i64 x9, .int .i64 x10, .slice a11 n11 c11, .int .i64 x12, .int .i64 x13, .int .i64 x14, .int .i64 x15, .slice a16 n16 c16, .slice a17 n17 c17, .slice a18 n18 c18, .slice a19 n19 c19, .slice a20 n20 c20] 31 (0, 0))) := i4
  clear i4
  go_wp2_with fail
  refine (qc5.out _ p4_5).mono ?_
  rintro e w5 ⟨rfl, om5, tq5⟩
  have z5 := tq5.size
  have i5 : w5.heap[w.heap.size]? = some (.cells #[.bool x0, .int .i64 x1, .int .i64 x2, .int .i64 x3, .int .i64 x4, .int .i64 x5, .slice a6 n6 c6, .slice a7 n7 c7, .slice a8 n8 c8, .int .i64 x9, .int .i64 x10, .slice a11 n11 c11, .int .i64 x12, .int .i64 x13, .int .i64 x14, .int .i64 x15, .slice a16 n16 c16, .slice a17 n17 c17, .slice a18 n18 c18, .slice a19 n19 c19, .slice a20 n20 c20] 31 (0, 0)) := (tq5.block _ (lt_heap BX4.out) (fun h => by have := LT5.out _ h; omega)).trans BX4.out
  have p5_3 := tq5.own p4_3 (fun y hy hyq => (List.nodup_append.1 HND.out).2.2 y hy y (List.mem_append_right _ (List.mem_append_left _ hyq)) rfl)
  have p5_4 := tq5.own p4_4 (fun y hy hyq => (List.nodup_append.1 (List.nodup_append.1 HND.out).2.1).2.2 y hy y (List.mem_append_left _ hyq) rfl)
  have p5_5 := om5
  have p5_6 := tq5.own p4_6 (fun y hy hyq => (List.nodup_append.1 (List.nodup_append.1 (List.nodup_append.1 HND.out).2.1).2.1).2.2 y hyq y (List.mem_append_left _ hy) rfl)
  have t5 := t4.trans (tq5.mono fun y hy => (List.mem_append_right _ (List.mem_append_right _ (List.mem_append_left _ hy)) : y ∈ F3 ++ (F4 ++ (F5 ++ (F6 ++ ([]))))))
  have y5_20 : w5.cell? ⟨w.heap.size, 20, none⟩ = some (.slice a20 n20 c20) := box_cell i5 rfl
  have BX5 : Hid (w5.heap[w.heap.size]? = some (.cells #[.bool x0, .int .i64 x1, .int .i64 x2, .int .i64 x3, .int .i64 x4, .int .i64 x5, .slice a6 n6 c6, .slice a7 n7 c7, .slice a8 n8 c8, .int .i64 x9, .int .i64 x10, .slice a11 n11 c11, .int .i64 x12, .int .i64 x13, .int .i64 x14, .int .i64 x15, .slice a16 n16 c16, .slice a17 n17 c17, .slice a18 n18 c18, .slice a19 n19 c19, .slice a20 n20 c20] 31 (0, 0))) := i5
  clear i5
  go_wp2_with fail
  refine (qc6.out _ p5_6).mono ?_
  rintro e w6 ⟨rfl, om6, tq6⟩
  have z6 := tq6.size
  have i6 : w6.heap[w.heap.size]? = some (.cells #[.bool x0, .int .i64 x1, .int .i64 x2, .int .i64 x3, .int .i64 x4, .int .i64 x5, .slice a6 n6 c6, .slice a7 n7 c7, .slice a8 n8 c8, .int .i64 x9, .int .i64 x10, .slice a11 n11 c11, .int .i64 x12, .int .i64 x13, .int .i64 x14, .int .i64 x15, .slice a16 n16 c16, .slice a17 n17 c17, .slice a18 n18 c18, .slice a19 n19 c19, .slice a20 n20 c20] 31 (0, 0)) := (tq6.block _ (lt_heap BX5.out) (fun h => by have := LT6.out _ h; omega)).trans BX5.out
  have p6_3 := tq6.own p5_3 (fun y hy hyq => (List.nodup_append.1 HND.out).2.2 y hy y (List.mem_append_right _ (List.mem_append_right _ (List.mem_append_left _ hyq))) rfl)
  have p6_4 := tq6.own p5_4 (fun y hy hyq => (List.nodup_append.1 (List.nodup_append.1 HND.out).2.1).2.2 y hy y (List.mem_append_right _ (List.mem_append_left _ hyq)) rfl)
  have p6_5 := tq6.own p5_5 (fun y hy hyq => (List.nodup_append.1 (List.nodup_append.1 (List.nodup_append.1 HND.out).2.1).2.1).2.2 y hy y (List.mem_append_left _ hyq) rfl)
  have p6_6 := om6
  have t6 := t5.trans (tq6.mono fun y hy => (List.mem_append_right _ (List.mem_append_right _ (List.mem_append_right _ (List.mem_append_left _ hy))) : y ∈ F3 ++ (F4 ++ (F5 ++ (F6 ++ ([]))))))
  have BX6 : Hid (w6.heap[w.heap.size]? = some (.cells #[.bool x0, .int .i64 x1, .int .i64 x2, .int .i64 x3, .int .i64 x4, .int .i64 x5, .slice a6 n6 c6, .slice a7 n7 c7, .slice a8 n8 c8, .int .i64 x9, .int .i64 x10, .slice a11 n11 c11, .int .i64 x12, .int .i64 x13, .int .i64 x14, .int .i64 x15, .slice a16 n16 c16, .slice a17 n17 c17, .slice a18 n18 c18, .slice a19 n19 c19, .slice a20 n20 c20] 31 (0, 0))) := i6
  clear i6
  have HT : Hid ((k6 : Int) = (((k + (C3 + C4 + C5 + C6) : Nat)) : Int)) := by have f3 := HK3.out; have f4 := HK4.out; have f5 := HK5.out; have f6 := HK6.out; show _ = _; omega
  have v3 : Own shStore w6 B [.int .i64 (d.2.2.2.1.1.1), .int .i64 (d.2.2.2.1.1.2.1), .int .i64 (d.2.2.2.1.1.2.2.1), .slice a6 n6 c6, .slice a7 n7 c7, .slice a8 n8 c8, .int .i64 (d.2.2.2.1.2.1), .int .i64 (d.2.2.2.1.2.2.1), .slice a11 n11 c11, .int .i64 (d.2.2.2.1.2.2.2.2.1)] (Sh.mkV shStore d.2.2.2.1 (k)) F3 := by
    have hv := p6_3
    rw [HST.out.2.2.2.1, HST.out.2.2.2.2.1, HST.out.2.2.2.2.2.1, HST.out.2.2.2.2.2.2.1, HST.out.2.2.2.2.2.2.2.1, HST.out.2.2.2.2.2.2.2.2.1] at hv
    exact hv
  have v4 : Own shDisk w6 B [.int .i64 (d.2.2.2.2.1.1), .int .i64 (d.2.2.2.2.1.2.1), .int .i64 (d.2.2.2.2.1.2.2.1), .slice a16 n16 c16, .slice a17 n17 c17, .slice a18 n18 c18] (Sh.mkV shDisk d.2.2.2.2.1 (k + Sh.cntV shStore d.2.2.2.1)) F4 := by
    have hv := p6_4
    rw [HK3.out, HC3.out] at hv
    rw [HST.out.2.2.2.2.2.2.2.2.2.1, HST.out.2.2.2.2.2.2.2.2.2.2.1, HST.out.2.2.2.2.2.2.2.2.2.2.2.1] at hv
    exact hv
  have v5 : Own (.sl shEntry) w6 B [.slice a19 n19 c19] (Sh.mk (.sl shEntry) d.2.2.2.2.2.1 (k + Sh.cntV shStore d.2.2.2.1 + Sh.cntV shDisk d.2.2.2.2.1)) F5 := by
    have hv := p6_5
    rw [HK4.out, HC4.out] at hv
    rw [HK3.out, HC3.out] at hv
    exact hv
  have v6 : Own (.sl shEntry) w6 B [.slice a20 n20 c20] (Sh.mk (.sl shEntry) d.2.2.2.2.2.2.1 (k + Sh.cntV shStore d.2.2.2.1 + Sh.cntV shDisk d.2.2.2.2.1 + Sh.cnt (.sl shEntry) d.2.2.2.2.2.1)) F6 := by
    have hv := p6_6
    rw [HK5.out, HC5.out] at hv
    rw [HK4.out, HC4.out] at hv
    rw [HK3.out, HC3.out] at hv
    exact hv
  have hb : Own shTrial w6 B [.bool (d.1), .int .i64 (d.2.1), .int .i64 (d.2.2.1), .int .i64 (d.2.2.2.1.1.1), .int .i64 (d.2.2.2.1.1.2.1), .int .i64 (d.2.2.2.1.1.2.2.1), .slice a6 n6 c6, .slice a7 n7 c7, .slice a8 n8 c8, .int .i64 (d.2.2.2.1.2.1), .int .i64 (d.2.2.2.1.2.2.1), .slice a11 n11 c11, .int .i64 (d.2.2.2.1.2.2.2.2.1), .int .i64 (d.2.2.2.2.1.1), .int .i64 (d.2.2.2.2.1.2.1), .int .i64 (d.2.2.2.2.1.2.2.1), .slice a16 n16 c16, .slice a17 n17 c17, .slice a18 n18 c18, .slice a19 n19 c19, .slice a20 n20 c20] (shTrial.mkV d k) (F3 ++ (F4 ++ (F5 ++ (F6 ++ ([]))))) := own_Trial (w := w6) (B := B) (d := shTrial.mkV d k) v3 v4 v5 v6
  rw [← HST.out.1, ← HST.out.2.1, ← HST.out.2.2.1, ← HST.out.2.2.2.1, ← HST.out.2.2.2.2.1, ← HST.out.2.2.2.2.2.1, ← HST.out.2.2.2.2.2.2.1, ← HST.out.2.2.2.2.2.2.2.1, ← HST.out.2.2.2.2.2.2.2.2.1, ← HST.out.2.2.2.2.2.2.2.2.2.1, ← HST.out.2.2.2.2.2.2.2.2.2.2.1, ← HST.out.2.2.2.2.2.2.2.2.2.2.2.1] at hb
  have HB : Hid (Own shTrial w6 B [.bool x0, .int .i64 x1, .int .i64 x2, .int .i64 x3, .int .i64 x4, .int .i64 x5, .slice a6 n6 c6, .slice a7 n7 c7, .slice a8 n8 c8, .int .i64 x9, .int .i64 x10, .slice a11 n11 c11, .int .i64 x12, .int .i64 x13, .int .i64 x14, .int .i64 x15, .slice a16 n16 c16, .slice a17 n17 c17, .slice a18 n18 c18, .slice a19 n19 c19, .slice a20 n20 c20] (shTrial.mkV d k) (F3 ++ (F4 ++ (F5 ++ (F6 ++ ([])))))) := hb
  clear hb v3 v4 v5 v6 p6_3 p6_4 p6_5 p6_6
  go_wp2
  go_ret
  exact ⟨by rw [← HT.out]; rfl, HB.out, t6⟩

set_option maxRecDepth 100000 in
set_option maxHeartbeats 2000000 in
theorem heldTrial_own (cs : List Value) (B k : Nat) (d : shTrial.D) (F : List Nat) (w : World) (ho : Own shTrial w B cs (shTrial.mkV d k) F) (hnd : F.Nodup) (hk0 : 1 ≤ k) (hk : k + shTrial.cntV d ≤ 1000000000000) :
    Calls Try.prog 9 #[.agg cs.toArray, .int .i64 k] w fun e w' => e = .returned (.int .i64 ((k + shTrial.cntV d : Nat) : Int)) ∧ Below w.heap.size w w' := by
  rw [cntV_Trial] at hk ⊢
  obtain ⟨a6, n6, c6, a7, n7, c7, a8, n8, c8, a11, n11, c11, F3, a16, n16, c16, a17, n17, c17, a18, n18, c18, F4, a19, n19, c19, F5, a20, n20, c20, F6, rfl, rfl, o3, o4, o5, o6⟩ := openO_Trial ho
  obtain ⟨x0, e0⟩ : ∃ x : Bool, x = (shTrial.mkV d k).1 := ⟨_, rfl⟩
  obtain ⟨x1, e1⟩ : ∃ x : Int, x = (shTrial.mkV d k).2.1 := ⟨_, rfl⟩
  obtain ⟨x2, e2⟩ : ∃ x : Int, x = (shTrial.mkV d k).2.2.1 := ⟨_, rfl⟩
  obtain ⟨x3, e3⟩ : ∃ x : Int, x = (shTrial.mkV d k).2.2.2.1.1.1 := ⟨_, rfl⟩
  obtain ⟨x4, e4⟩ : ∃ x : Int, x = (shTrial.mkV d k).2.2.2.1.1.2.1 := ⟨_, rfl⟩
  obtain ⟨x5, e5⟩ : ∃ x : Int, x = (shTrial.mkV d k).2.2.2.1.1.2.2.1 := ⟨_, rfl⟩
  obtain ⟨x9, e9⟩ : ∃ x : Int, x = (shTrial.mkV d k).2.2.2.1.2.1 := ⟨_, rfl⟩
  obtain ⟨x10, e10⟩ : ∃ x : Int, x = (shTrial.mkV d k).2.2.2.1.2.2.1 := ⟨_, rfl⟩
  obtain ⟨x12, e12⟩ : ∃ x : Int, x = (shTrial.mkV d k).2.2.2.1.2.2.2.2.1 := ⟨_, rfl⟩
  obtain ⟨x13, e13⟩ : ∃ x : Int, x = (shTrial.mkV d k).2.2.2.2.1.1 := ⟨_, rfl⟩
  obtain ⟨x14, e14⟩ : ∃ x : Int, x = (shTrial.mkV d k).2.2.2.2.1.2.1 := ⟨_, rfl⟩
  obtain ⟨x15, e15⟩ : ∃ x : Int, x = (shTrial.mkV d k).2.2.2.2.1.2.2.1 := ⟨_, rfl⟩
  obtain ⟨C3, hC3⟩ : ∃ C, C = Sh.cntV shStore d.2.2.2.1 := ⟨_, rfl⟩
  obtain ⟨C4, hC4⟩ : ∃ C, C = Sh.cntV shDisk d.2.2.2.2.1 := ⟨_, rfl⟩
  obtain ⟨C5, hC5⟩ : ∃ C, C = Sh.cnt (.sl shEntry) d.2.2.2.2.2.1 := ⟨_, rfl⟩
  obtain ⟨C6, hC6⟩ : ∃ C, C = Sh.cnt (.sl shEntry) d.2.2.2.2.2.2.1 := ⟨_, rfl⟩
  replace o3 : Own shStore w B [.int .i64 x3, .int .i64 x4, .int .i64 x5, .slice a6 n6 c6, .slice a7 n7 c7, .slice a8 n8 c8, .int .i64 x9, .int .i64 x10, .slice a11 n11 c11, .int .i64 x12] (shTrial.mkV d k).2.2.2.1 F3 := by rw [e3, e4, e5, e9, e10, e12]; exact o3
  replace o4 : Own shDisk w B [.int .i64 x13, .int .i64 x14, .int .i64 x15, .slice a16 n16 c16, .slice a17 n17 c17, .slice a18 n18 c18] (shTrial.mkV d k).2.2.2.2.1 F4 := by rw [e13, e14, e15]; exact o4
  rw [← e0, ← e1, ← e2, ← e3, ← e4, ← e5, ← e9, ← e10, ← e12, ← e13, ← e14, ← e15]
  rw [← hC3, ← hC4, ← hC5, ← hC6] at hk ⊢
  obtain ⟨k3, hk3⟩ : ∃ k' : Nat, k' = k + C3 := ⟨_, rfl⟩
  have ou3 : Own shStore w B [.int .i64 x3, .int .i64 x4, .int .i64 x5, .slice a6 n6 c6, .slice a7 n7 c7, .slice a8 n8 c8, .int .i64 x9, .int .i64 x10, .slice a11 n11 c11, .int .i64 x12] (Sh.mkV shStore d.2.2.2.1 (k)) F3 := by
    have hv : Own shStore w B [.int .i64 x3, .int .i64 x4, .int .i64 x5, .slice a6 n6 c6, .slice a7 n7 c7, .slice a8 n8 c8, .int .i64 x9, .int .i64 x10, .slice a11 n11 c11, .int .i64 x12] (Sh.mkV shStore d.2.2.2.1 (k)) F3 := o3
    exact hv
  have qc3 : Hid (∀ w' : World, Below w.heap.size w w' → Calls Try.prog 24 #[.agg #[.int .i64 x3, .int .i64 x4, .int .i64 x5, .slice a6 n6 c6, .slice a7 n7 c7, .slice a8 n8 c8, .int .i64 x9, .int .i64 x10, .slice a11 n11 c11, .int .i64 x12], .int .i64 ((k : Int))] w' fun e w'' => e = .returned (.int .i64 (k3 : Int)) ∧ Below w'.heap.size w' w'') := fun w' h' => by rw [hk3, hC3]; exact heldStore_own _ B (k) _ F3 w' (ou3.later h') ((List.nodup_append.1 hnd).1) (by omega) (by rw [← hC3]; omega)
  have nn3 : ¬ ((k3 : Int) < 0) := by omega
  have HK3 : Hid (k3 = k + C3) := hk3
  have HC3 : Hid (C3 = Sh.cntV shStore d.2.2.2.1) := hC3
  obtain ⟨k4, hk4⟩ : ∃ k' : Nat, k' = (k3) + C4 := ⟨_, rfl⟩
  have ou4 : Own shDisk w B [.int .i64 x13, .int .i64 x14, .int .i64 x15, .slice a16 n16 c16, .slice a17 n17 c17, .slice a18 n18 c18] (Sh.mkV shDisk d.2.2.2.2.1 ((k3))) F4 := by
    have hv : Own shDisk w B [.int .i64 x13, .int .i64 x14, .int .i64 x15, .slice a16 n16 c16, .slice a17 n17 c17, .slice a18 n18 c18] (Sh.mkV shDisk d.2.2.2.2.1 (k + Sh.cntV shStore d.2.2.2.1)) F4 := o4
    rw [show k + Sh.cntV shStore d.2.2.2.1 = (k3) by have f3 := hk3; have g3 := hC3; omega] at hv
    exact hv
  have qc4 : Hid (∀ w' : World, Below w.heap.size w w' → Calls Try.prog 25 #[.agg #[.int .i64 x13, .int .i64 x14, .int .i64 x15, .slice a16 n16 c16, .slice a17 n17 c17, .slice a18 n18 c18], .int .i64 ((k3 : Int))] w' fun e w'' => e = .returned (.int .i64 (k4 : Int)) ∧ Below w'.heap.size w' w'') := fun w' h' => by rw [hk4, hC4]; exact heldDisk_own _ B ((k3)) _ F4 w' (ou4.later h') ((List.nodup_append.1 (List.nodup_append.1 hnd).2.1).1) (by omega) (by rw [← hC4]; omega)
  have nn4 : ¬ ((k4 : Int) < 0) := by omega
  have HK4 : Hid (k4 = (k3) + C4) := hk4
  have HC4 : Hid (C4 = Sh.cntV shDisk d.2.2.2.2.1) := hC4
  obtain ⟨k5, hk5⟩ : ∃ k' : Nat, k' = (k4) + C5 := ⟨_, rfl⟩
  have ou5 : Own (.sl shEntry) w B [.slice a19 n19 c19] (Sh.mk (.sl shEntry) d.2.2.2.2.2.1 ((k4))) F5 := by
    have hv : Own (.sl shEntry) w B [.slice a19 n19 c19] (Sh.mk (.sl shEntry) d.2.2.2.2.2.1 (k + Sh.cntV shStore d.2.2.2.1 + Sh.cntV shDisk d.2.2.2.2.1)) F5 := o5
    rw [show k + Sh.cntV shStore d.2.2.2.1 + Sh.cntV shDisk d.2.2.2.2.1 = (k4) by have f3 := hk3; have g3 := hC3; have f4 := hk4; have g4 := hC4; omega] at hv
    exact hv
  have qc5 : Hid (∀ w' : World, Below w.heap.size w w' → Calls Try.prog 26 #[.slice a19 n19 c19, .int .i64 ((k4 : Int))] w' fun e w'' => e = .returned (.int .i64 (k5 : Int)) ∧ Below w'.heap.size w' w'') := fun w' h' => by rw [hk5, hC5]; exact heldEntryS_own a19 n19 c19 B ((k4)) _ F5 w' (ou5.later h') ((List.nodup_append.1 (List.nodup_append.1 (List.nodup_append.1 hnd).2.1).2.1).1) (by omega) (by rw [← hC5]; omega)
  have nn5 : ¬ ((k5 : Int) < 0) := by omega
  have HK5 : Hid (k5 = (k4) + C5) := hk5
  have HC5 : Hid (C5 = Sh.cnt (.sl shEntry) d.2.2.2.2.2.1) := hC5
  obtain ⟨k6, hk6⟩ : ∃ k' : Nat, k' = (k5) + C6 := ⟨_, rfl⟩
  have ou6 : Own (.sl shEntry) w B [.slice a20 n20 c20] (Sh.mk (.sl shEntry) d.2.2.2.2.2.2.1 ((k5))) F6 := by
    have hv : Own (.sl shEntry) w B [.slice a20 n20 c20] (Sh.mk (.sl shEntry) d.2.2.2.2.2.2.1 (k + Sh.cntV shStore d.2.2.2.1 + Sh.cntV shDisk d.2.2.2.2.1 + Sh.cnt (.sl shEntry) d.2.2.2.2.2.1)) F6 := o6
    rw [show k + Sh.cntV shStore d.2.2.2.1 + Sh.cntV shDisk d.2.2.2.2.1 + Sh.cnt (.sl shEntry) d.2.2.2.2.2.1 = (k5) by have f3 := hk3; have g3 := hC3; have f4 := hk4; have g4 := hC4; have f5 := hk5; have g5 := hC5; omega] at hv
    exact hv
  have qc6 : Hid (∀ w' : World, Below w.heap.size w w' → Calls Try.prog 26 #[.slice a20 n20 c20, .int .i64 ((k5 : Int))] w' fun e w'' => e = .returned (.int .i64 (k6 : Int)) ∧ Below w'.heap.size w' w'') := fun w' h' => by rw [hk6, hC6]; exact heldEntryS_own a20 n20 c20 B ((k5)) _ F6 w' (ou6.later h') ((List.nodup_append.1 (List.nodup_append.1 (List.nodup_append.1 (List.nodup_append.1 hnd).2.1).2.1).2.1).1) (by omega) (by rw [← hC6]; omega)
  have nn6 : ¬ ((k6 : Int) < 0) := by omega
  have HK6 : Hid (k6 = (k5) + C6) := hk6
  have HC6 : Hid (C6 = Sh.cnt (.sl shEntry) d.2.2.2.2.2.2.1) := hC6
  obtain ⟨W0, hW0⟩ : ∃ W0, W0 = w.alloc (.cells #[.bool x0, .int .i64 x1, .int .i64 x2, .int .i64 x3, .int .i64 x4, .int .i64 x5, .slice a6 n6 c6, .slice a7 n7 c7, .slice a8 n8 c8, .int .i64 x9, .int .i64 x10, .slice a11 n11 c11, .int .i64 x12, .int .i64 x13, .int .i64 x14, .int .i64 x15, .slice a16 n16 c16, .slice a17 n17 c17, .slice a18 n18 c18, .slice a19 n19 c19, .slice a20 n20 c20] 31) := ⟨_, rfl⟩
  have bW0 : Below w.heap.size w W0 := by rw [hW0]; exact (Below.refl _ _).alloc (Nat.le_refl _) _
  have hbx : W0.heap[w.heap.size]? = some (.cells #[.bool x0, .int .i64 x1, .int .i64 x2, .int .i64 x3, .int .i64 x4, .int .i64 x5, .slice a6 n6 c6, .slice a7 n7 c7, .slice a8 n8 c8, .int .i64 x9, .int .i64 x10, .slice a11 n11 c11, .int .i64 x12, .int .i64 x13, .int .i64 x14, .int .i64 x15, .slice a16 n16 c16, .slice a17 n17 c17, .slice a18 n18 c18, .slice a19 n19 c19, .slice a20 n20 c20] 31 (0, 0)) := by rw [hW0]; exact heap_alloc_new w _
  have zW0 : W0.heap.size = w.heap.size + 1 := by rw [hW0]; simp
  have HW0 : Hid (W0 = w.alloc (.cells #[.bool x0, .int .i64 x1, .int .i64 x2, .int .i64 x3, .int .i64 x4, .int .i64 x5, .slice a6 n6 c6, .slice a7 n7 c7, .slice a8 n8 c8, .int .i64 x9, .int .i64 x10, .slice a11 n11 c11, .int .i64 x12, .int .i64 x13, .int .i64 x14, .int .i64 x15, .slice a16 n16 c16, .slice a17 n17 c17, .slice a18 n18 c18, .slice a19 n19 c19, .slice a20 n20 c20] 31)) := hW0
  have HBX : Hid (W0.heap[w.heap.size]? = some (.cells #[.bool x0, .int .i64 x1, .int .i64 x2, .int .i64 x3, .int .i64 x4, .int .i64 x5, .slice a6 n6 c6, .slice a7 n7 c7, .slice a8 n8 c8, .int .i64 x9, .int .i64 x10, .slice a11 n11 c11, .int .i64 x12, .int .i64 x13, .int .i64 x14, .int .i64 x15, .slice a16 n16 c16, .slice a17 n17 c17, .slice a18 n18 c18, .slice a19 n19 c19, .slice a20 n20 c20] 31 (0, 0))) := hbx
  clear ho hW0 hbx e0 e1 e2 e3 e4 e5 e9 e10 e12 e13 e14 e15 hk3 hC3 o3 hk4 hC4 o4 hk5 hC5 o5 hk6 hC6 o6 ou3 ou4 ou5 ou6
  go_enter Try.func9, Try.ntmps9
  go_wp2_with fail
  rw [← HW0.out]
  refine (qc3.out _ bW0).mono ?_
  rintro e w3 ⟨rfl, hb3⟩
  have b3 := bW0.trans (hb3.mono bW0.size)
  have z3 := hb3.size
  have i3 : w3.heap[w.heap.size]? = some (.cells #[.bool x0, .int .i64 x1, .int .i64 x2, .int .i64 x3, .int .i64 x4, .int .i64 x5, .slice a6 n6 c6, .slice a7 n7 c7, .slice a8 n8 c8, .int .i64 x9, .int .i64 x10, .slice a11 n11 c11, .int .i64 x12, .int .i64 x13, .int .i64 x14, .int .i64 x15, .slice a16 n16 c16, .slice a17 n17 c17, .slice a18 n18 c18, .slice a19 n19 c19, .slice a20 n20 c20] 31 (0, 0)) := (hb3.block _ (lt_heap HBX.out)).trans HBX.out
  clear hb3
  have y3_13 : w3.cell? ⟨w.heap.size, 13, none⟩ = some (.int .i64 x13) := box_cell i3 rfl
  have y3_14 : w3.cell? ⟨w.heap.size, 14, none⟩ = some (.int .i64 x14) := box_cell i3 rfl
  have y3_15 : w3.cell? ⟨w.heap.size, 15, none⟩ = some (.int .i64 x15) := box_cell i3 rfl
  have y3_16 : w3.cell? ⟨w.heap.size, 16, none⟩ = some (.slice a16 n16 c16) := box_cell i3 rfl
  have y3_17 : w3.cell? ⟨w.heap.size, 17, none⟩ = some (.slice a17 n17 c17) := box_cell i3 rfl
  have y3_18 : w3.cell? ⟨w.heap.size, 18, none⟩ = some (.slice a18 n18 c18) := box_cell i3 rfl
  have y3_19 : w3.cell? ⟨w.heap.size, 19, none⟩ = some (.slice a19 n19 c19) := box_cell i3 rfl
  have y3_20 : w3.cell? ⟨w.heap.size, 20, none⟩ = some (.slice a20 n20 c20) := box_cell i3 rfl
  have BX3 : Hid (w3.heap[w.heap.size]? = some (.cells #[.bool x0, .int .i64 x1, .int .i64 x2, .int .i64 x3, .int .i64 x4, .int .i64 x5, .slice a6 n6 c6, .slice a7 n7 c7, .slice a8 n8 c8, .int .i64 x9, .int .i64 x10, .slice a11 n11 c11, .int .i64 x12, .int .i64 x13, .int .i64 x14, .int .i64 x15, .slice a16 n16 c16, .slice a17 n17 c17, .slice a18 n18 c18, .slice a19 n19 c19, .slice a20 n20 c20] 31 (0, 0))) := i3
  clear i3
  go_wp2_with fail
  refine (qc4.out _ b3).mono ?_
  rintro e w4 ⟨rfl, hb4⟩
  have b4 := b3.trans (hb4.mono b3.size)
  have z4 := hb4.size
  have i4 : w4.heap[w.heap.size]? = some (.cells #[.bool x0, .int .i64 x1, .int .i64 x2, .int .i64 x3, .int .i64 x4, .int .i64 x5, .slice a6 n6 c6, .slice a7 n7 c7, .slice a8 n8 c8, .int .i64 x9, .int .i64 x10, .slice a11 n11 c11, .int .i64 x12, .int .i64 x13, .int .i64 x14, .int .i64 x15, .slice a16 n16 c16, .slice a17 n17 c17, .slice a18 n18 c18, .slice a19 n19 c19, .slice a20 n20 c20] 31 (0, 0)) := (hb4.block _ (lt_heap BX3.out)).trans BX3.out
  clear hb4
  have y4_19 : w4.cell? ⟨w.heap.size, 19, none⟩ = some (.slice a19 n19 c19) := box_cell i4 rfl
  have y4_20 : w4.cell? ⟨w.heap.size, 20, none⟩ = some (.slice a20 n20 c20) := box_cell i4 rfl
  have BX4 : Hid (w4.heap[w.heap.size]? = some (.cells #[.bool x0, .int .i64 x1, .int .i64 x2, .int .i64 x3, .int .i64 x4, .int .i64 x5, .slice a6 n6 c6, .slice a7 n7 c7, .slice a8 n8 c8, .int .i64 x9, .int .i64 x10, .slice a11 n11 c11, .int .i64 x12, .int .i64 x13, .int .i64 x14, .int .i64 x15, .slice a16 n16 c16, .slice a17 n17 c17, .slice a18 n18 c18, .slice a19 n19 c19, .slice a20 n20 c20] 31 (0, 0))) := i4
  clear i4
  go_wp2_with fail
  refine (qc5.out _ b4).mono ?_
  rintro e w5 ⟨rfl, hb5⟩
  have b5 := b4.trans (hb5.mono b4.size)
  have z5 := hb5.size
  have i5 : w5.heap[w.heap.size]? = some (.cells #[.bool x0, .int .i64 x1, .int .i64 x2, .int .i64 x3, .int .i64 x4, .int .i64 x5, .slice a6 n6 c6, .slice a7 n7 c7, .slice a8 n8 c8, .int .i64 x9, .int .i64 x10, .slice a11 n11 c11, .int .i64 x12, .int .i64 x13, .int .i64 x14, .int .i64 x15, .slice a16 n16 c16, .slice a17 n17 c17, .slice a18 n18 c18, .slice a19 n19 c19, .slice a20 n20 c20] 31 (0, 0)) := (hb5.block _ (lt_heap BX4.out)).trans BX4.out
  clear hb5
  have y5_20 : w5.cell? ⟨w.heap.size, 20, none⟩ = some (.slice a20 n20 c20) := box_cell i5 rfl
  have BX5 : Hid (w5.heap[w.heap.size]? = some (.cells #[.bool x0, .int .i64 x1, .int .i64 x2, .int .i64 x3, .int .i64 x4, .int .i64 x5, .slice a6 n6 c6, .slice a7 n7 c7, .slice a8 n8 c8, .int .i64 x9, .int .i64 x10, .slice a11 n11 c11, .int .i64 x12, .int .i64 x13, .int .i64 x14, .int .i64 x15, .slice a16 n16 c16, .slice a17 n17 c17, .slice a18 n18 c18, .slice a19 n19 c19, .slice a20 n20 c20] 31 (0, 0))) := i5
  clear i5
  go_wp2_with fail
  refine (qc6.out _ b5).mono ?_
  rintro e w6 ⟨rfl, hb6⟩
  have b6 := b5.trans (hb6.mono b5.size)
  have z6 := hb6.size
  have i6 : w6.heap[w.heap.size]? = some (.cells #[.bool x0, .int .i64 x1, .int .i64 x2, .int .i64 x3, .int .i64 x4, .int .i64 x5, .slice a6 n6 c6, .slice a7 n7 c7, .slice a8 n8 c8, .int .i64 x9, .int .i64 x10, .slice a11 n11 c11, .int .i64 x12, .int .i64 x13, .int .i64 x14, .int .i64 x15, .slice a16 n16 c16, .slice a17 n17 c17, .slice a18 n18 c18, .slice a19 n19 c19, .slice a20 n20 c20] 31 (0, 0)) := (hb6.block _ (lt_heap BX5.out)).trans BX5.out
  clear hb6
  have BX6 : Hid (w6.heap[w.heap.size]? = some (.cells #[.bool x0, .int .i64 x1, .int .i64 x2, .int .i64 x3, .int .i64 x4, .int .i64 x5, .slice a6 n6 c6, .slice a7 n7 c7, .slice a8 n8 c8, .int .i64 x9, .int .i64 x10, .slice a11 n11 c11, .int .i64 x12, .int .i64 x13, .int .i64 x14, .int .i64 x15, .slice a16 n16 c16, .slice a17 n17 c17, .slice a18 n18 c18, .slice a19 n19 c19, .slice a20 n20 c20] 31 (0, 0))) := i6
  clear i6
  have HT : Hid ((k6 : Int) = (((k + (C3 + C4 + C5 + C6) : Nat)) : Int)) := by have f3 := HK3.out; have f4 := HK4.out; have f5 := HK5.out; have f6 := HK6.out; show _ = _; omega
  go_wp2
  go_ret
  exact ⟨by rw [← HT.out]; rfl, b6⟩

end Go.Proofs.Ytdmgknmlgipnpaa
