/-
  The type Op of the laws: its shape, and what szOp, toOp, eqOp and those of its slices do. By program (tygen.py).
-/
import Derived.Test.YtpdgjejgjbjamabTyBase
import Derived.Handy
import Derived.Deep.RegionHeld3
namespace Go.Proofs.Ytpdgjejgjbjamab
open Go.RowKit
set_option linter.unusedVariables false

def shOp : Sh := Sh.ofL [.int, .str, .str, .int, (.sl .u8)]

theorem open_Op {w : World} {cs : List Value} {d : shOp.D} (h : Reads shOp w cs d) :
    ∃ a4 n4 c4, cs = [.int .i64 (d.1), .string (d.2.1), .string (d.2.2.1), .int .i64 (d.2.2.2.1), .slice a4 n4 c4] ∧ ByteArray.size d.2.1 ≤ maxLen ∧ ByteArray.size d.2.2.1 ≤ maxLen ∧ Reads (.sl .u8) w [.slice a4 n4 c4] d.2.2.2.2.1 := by
  obtain ⟨_, _, rfl, h0, _, _, rfl, h1, _, _, rfl, h2, _, _, rfl, h3, _, _, rfl, h4, hE⟩ := h
  have e0 : _ = _ := h0
  obtain ⟨e1, l1⟩ := h1
  obtain ⟨e2, l2⟩ := h2
  have e3 : _ = _ := h3
  have g4 := h4
  obtain ⟨a4, c4, e4, _⟩ := g4
  have eE : _ = _ := hE
  subst e0 e1 e2 e3 e4 eE
  exact ⟨a4, _, c4, rfl, l1, l2, h4⟩

theorem own_Op {w : World} {B : Nat} {d : shOp.D} {v4 : Value} {F4 : List Nat} (l1 : ByteArray.size d.2.1 ≤ maxLen) (l2 : ByteArray.size d.2.2.1 ≤ maxLen) (o4 : Own (.sl .u8) w B [v4] d.2.2.2.2.1 F4) :
    Own shOp w B [.int .i64 (d.1), .string (d.2.1), .string (d.2.2.1), .int .i64 (d.2.2.2.1), v4] d (F4 ++ ([])) := by
  exact ⟨[_], _, [], F4 ++ ([]), rfl, rfl, ⟨rfl, rfl⟩, ⟨[_], _, [], F4 ++ ([]), rfl, rfl, ⟨⟨rfl, l1⟩, rfl⟩, ⟨[_], _, [], F4 ++ ([]), rfl, rfl, ⟨⟨rfl, l2⟩, rfl⟩, ⟨[_], _, [], F4 ++ ([]), rfl, rfl, ⟨rfl, rfl⟩, ⟨[_], _, F4, [], rfl, rfl, o4, ⟨rfl, rfl⟩⟩⟩⟩⟩⟩

theorem size_Op : shOp.size = 5 := rfl

theorem sz_Op (d : shOp.D) : shOp.sz d = Sh.sz .str d.2.1 + Sh.sz .str d.2.2.1 + Sh.sz (.sl .u8) d.2.2.2.2.1 := by
  show 0 + (Sh.sz .str d.2.1 + (Sh.sz .str d.2.2.1 + (0 + (Sh.sz (.sl .u8) d.2.2.2.2.1 + (0))))) = _
  omega

set_option maxHeartbeats 1000000 in
theorem szOp_any (cs : List Value) (d : shOp.D) (left : Int) (w : World) (hr : Reads shOp w cs d) (h0 : 0 ≤ left) (h1 : left ≤ 1048576) :
    Calls Try.prog 4 #[.agg cs.toArray, .int .i64 left] w fun e w' => e = .returned (.int .i64 (szAns (shOp.sz d) left)) ∧ Below w.heap.size w w' := by
  obtain ⟨a4, n4, c4, rfl, r1, r2, r4⟩ := open_Op hr
  obtain ⟨x0, e0⟩ : ∃ x : Int, x = d.1 := ⟨_, rfl⟩
  obtain ⟨x1, e1⟩ : ∃ x : ByteArray, x = d.2.1 := ⟨_, rfl⟩
  obtain ⟨x2, e2⟩ : ∃ x : ByteArray, x = d.2.2.1 := ⟨_, rfl⟩
  obtain ⟨x3, e3⟩ : ∃ x : Int, x = d.2.2.2.1 := ⟨_, rfl⟩

  rw [sz_Op]
  obtain ⟨k1, hk1⟩ : ∃ k, k = Sh.sz .str d.2.1 := ⟨_, rfl⟩
  have hx1 : k1 = x1.size := by rw [hk1, e1]; rfl
  have hm1 : x1.size ≤ 9223372036854775807 := by rw [e1]; exact r1
  obtain ⟨k2, hk2⟩ : ∃ k, k = Sh.sz .str d.2.2.1 := ⟨_, rfl⟩
  have hx2 : k2 = x2.size := by rw [hk2, e2]; rfl
  have hm2 : x2.size ≤ 9223372036854775807 := by rw [e2]; exact r2
  obtain ⟨k4, hk4⟩ : ∃ k, k = Sh.sz (.sl .u8) d.2.2.2.2.1 := ⟨_, rfl⟩
  have q4 : Hid (∀ w', Below w.heap.size w w' → ∀ l : Int, 0 ≤ l → l ≤ 1048576 → Calls Try.prog 9 #[.slice a4 n4 c4, .int .i64 l] w' fun e w'' => e = .returned (.int .i64 (szAns k4 l)) ∧ Below w'.heap.size w' w'') := fun w' hb l l0 l1 => by rw [hk4]; exact szByteS_any a4 n4 c4 _ l w' (r4.later hb) l0 l1
  rw [← hk1, ← hk2, ← hk4]
  rw [← e0, ← e1, ← e2, ← e3]
  have HX1 : Hid (k1 = x1.size) := hx1
  have HX2 : Hid (k2 = x2.size) := hx2
  clear hr r1 r2 r4 hk1 hk2 hk4 e0 e1 e2 e3 hx1 hx2
  obtain ⟨W0, hW0⟩ : ∃ W0, W0 = w.alloc (.cells #[.int .i64 x0, .string x1, .string x2, .int .i64 x3, .slice a4 n4 c4] 24) := ⟨_, rfl⟩
  have bW0 : Below w.heap.size w W0 := by rw [hW0]; exact (Below.refl _ _).alloc (Nat.le_refl _) _
  have hbox : W0.heap[w.heap.size]? = some (.cells #[.int .i64 x0, .string x1, .string x2, .int .i64 x3, .slice a4 n4 c4] 24 (0, 0)) := by rw [hW0]; exact heap_alloc_new w _
  have zW0 : W0.heap.size = w.heap.size + 1 := by rw [hW0]; simp
  have HW0 : Hid (W0 = _) := hW0
  have HBX : Hid _ := hbox
  clear hW0 hbox
  go_enter Try.func4, Try.ntmps4
  have HH1 := HX1.out
  by_cases t1 : (k1 : Int) ≤ left
  rotate_left
  · have E : Hid (szAns (k1 + k2 + k4) left = -1) := szAns_no (by omega)
    have u1 : (left - (x1.size : Int) < 0) := by omega
    clear HH1
    go_wp2
    go_ret
    exact ⟨by rw [E.out]; rfl, by rw [← HW0.out]; exact bW0⟩
  have u1 : ¬ (left - (x1.size : Int) < 0) := by omega
  have HH2 := HX2.out
  by_cases t2 : (k2 : Int) ≤ left - (x1.size : Int)
  rotate_left
  · have E : Hid (szAns (k1 + k2 + k4) left = -1) := szAns_no (by omega)
    have u2 : (left - (x1.size : Int) - (x2.size : Int) < 0) := by omega
    clear HH1 HH2
    go_wp2
    go_ret
    exact ⟨by rw [E.out]; rfl, by rw [← HW0.out]; exact bW0⟩
  have u2 : ¬ (left - (x1.size : Int) - (x2.size : Int) < 0) := by omega
  go_wp2_with fail
  rw [← HW0.out]
  refine (q4.out _ bW0 (left - (x1.size : Int) - (x2.size : Int)) (by omega) (by omega)).mono ?_
  rintro e w4 ⟨rfl, hb4⟩
  have b4 := bW0.trans (hb4.mono bW0.size)
  have i4 : w4.heap[w.heap.size]? = _ := (hb4.block _ (by rw [zW0]; omega)).trans HBX.out
  have z4 := hb4.size
  rw [zW0] at z4
  have I4 : Hid _ := i4
  clear i4 hb4
  by_cases t4 : (k4 : Int) ≤ left - (x1.size : Int) - (x2.size : Int)
  rotate_left
  · rw [szAns_no t4]
    have E0 : ((k1 : Int) + (k2 : Int) + (k4 : Int) : Int) > left := by omega
    clear HH1 HH2
    have E : Hid (szAns (k1 + k2 + k4) left = -1) := szAns_no (by omega)
    go_wp2
    go_ret
    exact ⟨by rw [E.out]; rfl, b4⟩
  rw [szAns_yes t4]
  have u4 : ¬ (left - (x1.size : Int) - (x2.size : Int) - (k4 : Int) < 0) := by omega
  have E : Hid (szAns (k1 + k2 + k4) left = left - (x1.size : Int) - (x2.size : Int) - (k4 : Int)) := by show _ = _; rw [szAns_yes (by omega)]; omega
  clear HH1 HH2
  go_wp2
  go_ret
  exact ⟨by rw [E.out]; rfl, b4⟩

theorem opens_Op {H : Type} {enc : TypeId × Value → H} {w : World} {spare : Nat → Bool} {held : Bool} : Opens enc Try.prog w spare held 24 shOp := by
  refine opens_struct [.int, .str, .str, .int, (.sl .u8)] Try.underlying24 (by kernel_rfl) (fun i s hi => ?_)
  match i, hi with
  | 0, hi => obtain rfl := Option.some.inj hi; exact ⟨_, rfl, opens_int Try.underlying3 (by kernel_rfl), rfl⟩
  | 1, hi => obtain rfl := Option.some.inj hi; exact ⟨_, rfl, opens_str Try.underlying9 (by kernel_rfl), rfl⟩
  | 2, hi => obtain rfl := Option.some.inj hi; exact ⟨_, rfl, opens_str Try.underlying9 (by kernel_rfl), rfl⟩
  | 3, hi => obtain rfl := Option.some.inj hi; exact ⟨_, rfl, opens_int Try.underlying3 (by kernel_rfl), rfl⟩
  | 4, hi => obtain rfl := Option.some.inj hi; exact ⟨_, rfl, opens_sl Try.underlying22 (by kernel_rfl) (by decide) (opens_u8 Try.underlying5 (by kernel_rfl)), rfl⟩
  | n + 5, hi => simp at hi

set_option maxRecDepth 100000 in
set_option maxHeartbeats 1000000 in
theorem toOp_any (cs : List Value) (d : shOp.D) (w : World) (hr : Reads shOp w cs d) (hs : shOp.sz d ≤ 1048576) :
    Calls Try.prog 6 #[.agg cs.toArray] w fun e w' => ∃ cs' F, e = .returned (.agg cs'.toArray) ∧ Own shOp w' w.heap.size cs' d F ∧ F.Nodup ∧ Below w.heap.size w w' := by
  obtain ⟨a4, n4, c4, rfl, r1, r2, r4⟩ := open_Op hr
  obtain ⟨x0, e0⟩ : ∃ x : Int, x = d.1 := ⟨_, rfl⟩
  obtain ⟨x1, e1⟩ : ∃ x : ByteArray, x = d.2.1 := ⟨_, rfl⟩
  obtain ⟨x2, e2⟩ : ∃ x : ByteArray, x = d.2.2.1 := ⟨_, rfl⟩
  obtain ⟨x3, e3⟩ : ∃ x : Int, x = d.2.2.2.1 := ⟨_, rfl⟩

  rw [sz_Op] at hs
  have q4 : Hid (∀ w', Below w.heap.size w w' → Calls Try.prog 11 #[.slice a4 n4 c4] w' fun e w'' => ∃ (g : Nat) (F : List Nat), e = .returned (.slice (some ⟨g, 0, none⟩) n4 n4) ∧ Own (.sl .u8) w'' w'.heap.size [.slice (some ⟨g, 0, none⟩) n4 n4] d.2.2.2.2.1 F ∧ F.Nodup ∧ Below w'.heap.size w' w'') := fun w' h' => toByteS_own a4 n4 c4 _ w' (r4.later h') (by omega)
  rw [← e0, ← e1, ← e2, ← e3]
  have HE : Hid (x0 = d.1 ∧ x1 = d.2.1 ∧ x2 = d.2.2.1 ∧ x3 = d.2.2.2.1 ∧ ByteArray.size d.2.1 ≤ maxLen ∧ ByteArray.size d.2.2.1 ≤ maxLen ∧ True) := ⟨e0, e1, e2, e3, r1, r2, trivial⟩
  obtain ⟨i0, i1, i2, isz⟩ := alloc3_heap w (.cells #[.int .i64 x0, .string x1, .string x2, .int .i64 x3, .slice a4 n4 c4] 24) (.cells #[.int .i64 0, .string ⟨#[]⟩, .string ⟨#[]⟩, .int .i64 0, .slice none 0 0] 27) (.cells #[.int .i64 x0, .string x1, .string x2, .int .i64 x3, .slice none 0 0] 27)
  obtain ⟨W0, hW0⟩ : ∃ W0, W0 = ((w.alloc (.cells #[.int .i64 x0, .string x1, .string x2, .int .i64 x3, .slice a4 n4 c4] 24)).alloc (.cells #[.int .i64 0, .string ⟨#[]⟩, .string ⟨#[]⟩, .int .i64 0, .slice none 0 0] 27)).alloc (.cells #[.int .i64 x0, .string x1, .string x2, .int .i64 x3, .slice none 0 0] 27) := ⟨_, rfl⟩
  rw [← hW0] at i0 i1 i2 isz
  have bW0 : Below w.heap.size w W0 := by rw [hW0]; exact (((Below.refl _ _).alloc (Nat.le_refl _) _).alloc (by simp) _).alloc (by simp; omega) _
  have HW0 : Hid (W0 = _) := hW0
  have HI : Hid (_ ∧ _ ∧ _) := ⟨i0, i1, i2⟩
  clear hr hs hW0 i0 i1 i2 r1 r2 r4 e0 e1 e2 e3
  go_enter Try.func6, Try.ntmps6
  go_wp2_with fail
  rw [← HW0.out]
  refine (q4.out _ bW0).mono ?_
  rintro e w4 ⟨g4, F4, rfl, o4, nd4, hb4⟩
  have b4 := bW0.trans (hb4.mono bW0.size)
  have z4 := hb4.size
  have iA : w4.heap[w.heap.size]? = some (.cells #[.int .i64 x0, .string x1, .string x2, .int .i64 x3, .slice a4 n4 c4] 24 (0, 0)) := (hb4.block _ (by omega)).trans HI.out.1
  have iB : w4.heap[w.heap.size + 1]? = some (.cells #[.int .i64 0, .string ByteArray.empty, .string ByteArray.empty, .int .i64 0, .slice none 0 0] 27 (0, 0)) := (hb4.block _ (by omega)).trans HI.out.2.1
  have iC : w4.heap[w.heap.size + 1 + 1]? = some (.cells #[.int .i64 x0, .string x1, .string x2, .int .i64 x3, .slice none 0 0] 27 (0, 0)) := (hb4.block _ (by omega)).trans HI.out.2.2
  have yb4_4 : w4.cell? ⟨w.heap.size + 1 + 1, 4, none⟩ = some (.slice none 0 0) := box_cell iC rfl
  have yf4_4 : w4.frozen? ⟨w.heap.size + 1 + 1, 4, none⟩ = false := box_frozen iC
  have yb4_0 : w4.cell? ⟨w.heap.size + 1 + 1, 0, none⟩ = some (.int .i64 x0) := box_cell iC rfl
  have yr4_0 : w4.cell? ⟨w.heap.size + 1, 0, none⟩ = some (.int .i64 0) := box_cell iB rfl
  have yg4_0 : w4.frozen? ⟨w.heap.size + 1, 0, none⟩ = false := box_frozen iB
  have yb4_1 : w4.cell? ⟨w.heap.size + 1 + 1, 1, none⟩ = some (.string x1) := box_cell iC rfl
  have yr4_1 : w4.cell? ⟨w.heap.size + 1, 1, none⟩ = some (.string ByteArray.empty) := box_cell iB rfl
  have yg4_1 : w4.frozen? ⟨w.heap.size + 1, 1, none⟩ = false := box_frozen iB
  have yb4_2 : w4.cell? ⟨w.heap.size + 1 + 1, 2, none⟩ = some (.string x2) := box_cell iC rfl
  have yr4_2 : w4.cell? ⟨w.heap.size + 1, 2, none⟩ = some (.string ByteArray.empty) := box_cell iB rfl
  have yg4_2 : w4.frozen? ⟨w.heap.size + 1, 2, none⟩ = false := box_frozen iB
  have yb4_3 : w4.cell? ⟨w.heap.size + 1 + 1, 3, none⟩ = some (.int .i64 x3) := box_cell iC rfl
  have yr4_3 : w4.cell? ⟨w.heap.size + 1, 3, none⟩ = some (.int .i64 0) := box_cell iB rfl
  have yg4_3 : w4.frozen? ⟨w.heap.size + 1, 3, none⟩ = false := box_frozen iB
  have yr4_4 : w4.cell? ⟨w.heap.size + 1, 4, none⟩ = some (.slice none 0 0) := box_cell iB rfl
  have yg4_4 : w4.frozen? ⟨w.heap.size + 1, 4, none⟩ = false := box_frozen iB
  rw [isz] at o4
  have L4 := o4.lt
  have ND : (F4 ++ ([])).Nodup := by
    simp only [List.append_nil]
    refine nd4
  have HO : Hid ((∀ w', (∀ g, w.heap.size + 1 + 1 < g → w'.heap[g]? = w4.heap[g]?) → Own shOp w' w.heap.size [.int .i64 x0, .string x1, .string x2, .int .i64 x3, .slice (some ⟨g4, 0, none⟩) n4 n4] d (F4 ++ ([]))) ∧ True) := ⟨fun w' hw' => by
    have := own_Op (w := w') (B := w.heap.size) (d := d) HE.out.2.2.2.2.1 HE.out.2.2.2.2.2.1 ((o4.keep fun g hg => hw' g (by have := (L4 g hg).1; omega)).base (by omega))
    simpa only [← HE.out.1, ← HE.out.2.1, ← HE.out.2.2.1, ← HE.out.2.2.2.1] using this, trivial⟩
  have HB : Hid (Below w.heap.size w w4) := b4
  have HN : Hid ((F4 ++ ([])).Nodup) := ND
  clear iA iB iC ND b4 L4 o4
  have yz0 : (((w4).setCell ⟨w.heap.size + 1 + 1, 4, none⟩ (.slice (some ⟨g4, 0, none⟩) n4 n4)).setCell ⟨w.heap.size + 1, 0, none⟩ (.int .i64 x0)).cell? ⟨w.heap.size + 1, 0, none⟩ = some (.int .i64 x0) := World.cell?_setCell_same _ _ _ (by rw [World.cell?_setCell_other _ _ _ _ (by simp)]; exact yr4_0)
  have yz1 : ((((w4).setCell ⟨w.heap.size + 1 + 1, 4, none⟩ (.slice (some ⟨g4, 0, none⟩) n4 n4)).setCell ⟨w.heap.size + 1, 0, none⟩ (.int .i64 x0)).setCell ⟨w.heap.size + 1, 1, none⟩ (.string x1)).cell? ⟨w.heap.size + 1, 1, none⟩ = some (.string x1) := World.cell?_setCell_same _ _ _ (by rw [World.cell?_setCell_other _ _ _ _ (by simp), World.cell?_setCell_other _ _ _ _ (by simp)]; exact yr4_1)
  have yz2 : (((((w4).setCell ⟨w.heap.size + 1 + 1, 4, none⟩ (.slice (some ⟨g4, 0, none⟩) n4 n4)).setCell ⟨w.heap.size + 1, 0, none⟩ (.int .i64 x0)).setCell ⟨w.heap.size + 1, 1, none⟩ (.string x1)).setCell ⟨w.heap.size + 1, 2, none⟩ (.string x2)).cell? ⟨w.heap.size + 1, 2, none⟩ = some (.string x2) := World.cell?_setCell_same _ _ _ (by rw [World.cell?_setCell_other _ _ _ _ (by simp), World.cell?_setCell_other _ _ _ _ (by simp), World.cell?_setCell_other _ _ _ _ (by simp)]; exact yr4_2)
  have yz3 : ((((((w4).setCell ⟨w.heap.size + 1 + 1, 4, none⟩ (.slice (some ⟨g4, 0, none⟩) n4 n4)).setCell ⟨w.heap.size + 1, 0, none⟩ (.int .i64 x0)).setCell ⟨w.heap.size + 1, 1, none⟩ (.string x1)).setCell ⟨w.heap.size + 1, 2, none⟩ (.string x2)).setCell ⟨w.heap.size + 1, 3, none⟩ (.int .i64 x3)).cell? ⟨w.heap.size + 1, 3, none⟩ = some (.int .i64 x3) := World.cell?_setCell_same _ _ _ (by rw [World.cell?_setCell_other _ _ _ _ (by simp), World.cell?_setCell_other _ _ _ _ (by simp), World.cell?_setCell_other _ _ _ _ (by simp), World.cell?_setCell_other _ _ _ _ (by simp)]; exact yr4_3)
  have yz4 : (((((((w4).setCell ⟨w.heap.size + 1 + 1, 4, none⟩ (.slice (some ⟨g4, 0, none⟩) n4 n4)).setCell ⟨w.heap.size + 1, 0, none⟩ (.int .i64 x0)).setCell ⟨w.heap.size + 1, 1, none⟩ (.string x1)).setCell ⟨w.heap.size + 1, 2, none⟩ (.string x2)).setCell ⟨w.heap.size + 1, 3, none⟩ (.int .i64 x3)).setCell ⟨w.heap.size + 1, 4, none⟩ (.slice (some ⟨g4, 0, none⟩) n4 n4)).cell? ⟨w.heap.size + 1, 4, none⟩ = some (.slice (some ⟨g4, 0, none⟩) n4 n4) := World.cell?_setCell_same _ _ _ (by rw [World.cell?_setCell_other _ _ _ _ (by simp), World.cell?_setCell_other _ _ _ _ (by simp), World.cell?_setCell_other _ _ _ _ (by simp), World.cell?_setCell_other _ _ _ _ (by simp), World.cell?_setCell_other _ _ _ _ (by simp)]; exact yr4_4)
  go_wp2
  (try simp only [Exit.inBlock, Exit.then])
  refine bodyPost_ret (by simp [results, Try.results6, go_sem, yz0, yz1, yz2, yz3, yz4]; try rfl) rfl ?_
  refine ⟨_, _, rfl, HO.out.1 _ (fun g hg => ((box_other _ (by omega)).trans ((box_other _ (by omega)).trans ((box_other _ (by omega)).trans ((box_other _ (by omega)).trans ((box_other _ (by omega)).trans (box_other _ (by omega)))))))), HN.out, ?_⟩
  exact ((((((HB.out.setCell (by simp <;> omega) _).setCell (by simp <;> omega) _).setCell (by simp <;> omega) _).setCell (by simp <;> omega) _).setCell (by simp <;> omega) _).setCell (by simp <;> omega) _)

theorem infoOp : (Try.prog.info? 27).map (fun i => (i.zero, i.size, i.bytes)) = some (some (.agg #[.int .i64 0, .string ByteArray.empty, .string ByteArray.empty, .int .i64 0, .slice none 0 0]), 5, 72) := by kernel_rfl

set_option maxRecDepth 100000 in
set_option maxHeartbeats 1000000 in
theorem eqOp_any (cs1 cs2 : List Value) (d : shOp.D) (w : World) (hr : Reads shOp w cs1 d) (hq : Reads shOp w cs2 d) (hs : shOp.sz d ≤ 1048576) :
    Calls Try.prog 8 #[.agg cs1.toArray, .agg cs2.toArray] w fun e w' => e = .returned (.bool true) ∧ Below w.heap.size w w' := by
  obtain ⟨a4, n4, c4, rfl, r1, r2, r4⟩ := open_Op hr
  obtain ⟨p4, m4, k4, rfl, _, _, t4⟩ := open_Op hq
  obtain ⟨x0, e0⟩ : ∃ x : Int, x = d.1 := ⟨_, rfl⟩
  obtain ⟨x1, e1⟩ : ∃ x : ByteArray, x = d.2.1 := ⟨_, rfl⟩
  obtain ⟨x2, e2⟩ : ∃ x : ByteArray, x = d.2.2.1 := ⟨_, rfl⟩
  obtain ⟨x3, e3⟩ : ∃ x : Int, x = d.2.2.2.1 := ⟨_, rfl⟩

  rw [sz_Op] at hs
  obtain rfl : n4 = m4 := (reads_len r4).1.symm.trans (reads_len t4).1
  have q4 : Hid (∀ w', Below w.heap.size w w' → Calls Try.prog 14 #[.slice a4 n4 c4, .slice p4 n4 k4] w' fun e w'' => e = .returned (.bool true) ∧ Below w'.heap.size w' w'') := fun w' h' => eqByteS_reads a4 p4 n4 c4 k4 _ w' (r4.later h') (t4.later h') (by omega)
  rw [← e0, ← e1, ← e2, ← e3]
  have ne0 : (x0 != x0) = false := by simp
  have ne1 : (x1.toList != x1.toList) = false := by simp
  have ne2 : (x2.toList != x2.toList) = false := by simp
  have ne3 : (x3 != x3) = false := by simp
  clear hr hq hs r1 r2 r4 t4 e0 e1 e2 e3
  obtain ⟨W0, hW0⟩ : ∃ W0, W0 = (w.alloc (.cells #[.int .i64 x0, .string x1, .string x2, .int .i64 x3, .slice a4 n4 c4] 27)).alloc (.cells #[.int .i64 x0, .string x1, .string x2, .int .i64 x3, .slice p4 n4 k4] 27) := ⟨_, rfl⟩
  have bW0 : Below w.heap.size w W0 := by rw [hW0]; exact ((Below.refl _ _).alloc (Nat.le_refl _) _).alloc (by simp) _
  have hA : W0.heap[w.heap.size]? = some (.cells #[.int .i64 x0, .string x1, .string x2, .int .i64 x3, .slice a4 n4 c4] 27 (0, 0)) := by rw [hW0, heap_alloc_old _ _ (by simp)]; exact heap_alloc_new w _
  have hB : W0.heap[w.heap.size + 1]? = some (.cells #[.int .i64 x0, .string x1, .string x2, .int .i64 x3, .slice p4 n4 k4] 27 (0, 0)) := by rw [hW0]; exact (by have := heap_alloc_new (w.alloc (.cells #[.int .i64 x0, .string x1, .string x2, .int .i64 x3, .slice a4 n4 c4] 27)) (.cells #[.int .i64 x0, .string x1, .string x2, .int .i64 x3, .slice p4 n4 k4] 27); simpa using this)
  have zW0 : W0.heap.size = w.heap.size + 1 + 1 := by rw [hW0]; simp
  have HW0 : Hid (W0 = _) := hW0
  have HAB : Hid (W0.heap[w.heap.size]? = some (.cells #[.int .i64 x0, .string x1, .string x2, .int .i64 x3, .slice a4 n4 c4] 27 (0, 0)) ∧ W0.heap[w.heap.size + 1]? = some (.cells #[.int .i64 x0, .string x1, .string x2, .int .i64 x3, .slice p4 n4 k4] 27 (0, 0))) := ⟨hA, hB⟩
  clear hW0 hA hB
  go_enter Try.func8, Try.ntmps8
  go_wp2_with fail
  rw [← HW0.out]
  refine (q4.out _ bW0).mono ?_
  rintro e w4 ⟨rfl, hb4⟩
  have b4 := bW0.trans (hb4.mono bW0.size)
  have z4 := hb4.size
  have iA : w4.heap[w.heap.size]? = some (.cells #[.int .i64 x0, .string x1, .string x2, .int .i64 x3, .slice a4 n4 c4] 27 (0, 0)) := (hb4.block _ (by omega)).trans HAB.out.1
  have iB : w4.heap[w.heap.size + 1]? = some (.cells #[.int .i64 x0, .string x1, .string x2, .int .i64 x3, .slice p4 n4 k4] 27 (0, 0)) := (hb4.block _ (by omega)).trans HAB.out.2
  have I4 : Hid (w4.heap[w.heap.size]? = some (.cells #[.int .i64 x0, .string x1, .string x2, .int .i64 x3, .slice a4 n4 c4] 27 (0, 0)) ∧ w4.heap[w.heap.size + 1]? = some (.cells #[.int .i64 x0, .string x1, .string x2, .int .i64 x3, .slice p4 n4 k4] 27 (0, 0))) := ⟨iA, iB⟩
  clear iA iB hb4
  go_wp2
  go_ret
  exact ⟨rfl, b4⟩

end Go.Proofs.Ytpdgjejgjbjamab
