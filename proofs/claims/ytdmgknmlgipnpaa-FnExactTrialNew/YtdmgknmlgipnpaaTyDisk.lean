/-
  The type Disk of the laws: its shape, and what szDisk, toDisk, eqDisk and those of its slices do. By program (tygen.py).
-/
import Derived.Test.YtdmgknmlgipnpaaTyBase
import Derived.Handy
import Derived.Deep.RegionHeld3
import Derived.Test.YtdmgknmlgipnpaaTyLink
import Derived.Test.YtdmgknmlgipnpaaTyNode
import Derived.Test.YtdmgknmlgipnpaaTyTurn
namespace Go.Proofs.Ytdmgknmlgipnpaa
open Go.RowKit
set_option linter.unusedVariables false

def shDisk : Sh := Sh.ofL [.int, .int, .int, (.sl shNode), (.sl shLink), (.sl shTurn)]

theorem open_Disk {w : World} {cs : List Value} {d : shDisk.D} (h : Reads shDisk w cs d) :
    ∃ a3 n3 c3 a4 n4 c4 a5 n5 c5, cs = [.int .i64 (d.1), .int .i64 (d.2.1), .int .i64 (d.2.2.1), .slice a3 n3 c3, .slice a4 n4 c4, .slice a5 n5 c5] ∧ Reads (.sl shNode) w [.slice a3 n3 c3] d.2.2.2.1 ∧ Reads (.sl shLink) w [.slice a4 n4 c4] d.2.2.2.2.1 ∧ Reads (.sl shTurn) w [.slice a5 n5 c5] d.2.2.2.2.2.1 := by
  obtain ⟨_, _, rfl, h0, _, _, rfl, h1, _, _, rfl, h2, _, _, rfl, h3, _, _, rfl, h4, _, _, rfl, h5, hE⟩ := h
  have e0 : _ = _ := h0
  have e1 : _ = _ := h1
  have e2 : _ = _ := h2
  have g3 := h3
  obtain ⟨a3, c3, e3, _⟩ := g3
  have g4 := h4
  obtain ⟨a4, c4, e4, _⟩ := g4
  have g5 := h5
  obtain ⟨a5, c5, e5, _⟩ := g5
  have eE : _ = _ := hE
  subst e0 e1 e2 e3 e4 e5 eE
  exact ⟨a3, _, c3, a4, _, c4, a5, _, c5, rfl, h3, h4, h5⟩

theorem own_Disk {w : World} {B : Nat} {d : shDisk.D} {v3 : Value} {F3 : List Nat} {v4 : Value} {F4 : List Nat} {v5 : Value} {F5 : List Nat} (o3 : Own (.sl shNode) w B [v3] d.2.2.2.1 F3) (o4 : Own (.sl shLink) w B [v4] d.2.2.2.2.1 F4) (o5 : Own (.sl shTurn) w B [v5] d.2.2.2.2.2.1 F5) :
    Own shDisk w B [.int .i64 (d.1), .int .i64 (d.2.1), .int .i64 (d.2.2.1), v3, v4, v5] d (F3 ++ (F4 ++ (F5 ++ ([])))) := by
  exact ⟨[_], _, [], F3 ++ (F4 ++ (F5 ++ ([]))), rfl, rfl, ⟨rfl, rfl⟩, ⟨[_], _, [], F3 ++ (F4 ++ (F5 ++ ([]))), rfl, rfl, ⟨rfl, rfl⟩, ⟨[_], _, [], F3 ++ (F4 ++ (F5 ++ ([]))), rfl, rfl, ⟨rfl, rfl⟩, ⟨[_], _, F3, F4 ++ (F5 ++ ([])), rfl, rfl, o3, ⟨[_], _, F4, F5 ++ ([]), rfl, rfl, o4, ⟨[_], _, F5, [], rfl, rfl, o5, ⟨rfl, rfl⟩⟩⟩⟩⟩⟩⟩

theorem size_Disk : shDisk.size = 6 := rfl

theorem sz_Disk (d : shDisk.D) : shDisk.sz d = Sh.sz (.sl shNode) d.2.2.2.1 + Sh.sz (.sl shLink) d.2.2.2.2.1 + Sh.sz (.sl shTurn) d.2.2.2.2.2.1 := by
  show 0 + (0 + (0 + (Sh.sz (.sl shNode) d.2.2.2.1 + (Sh.sz (.sl shLink) d.2.2.2.2.1 + (Sh.sz (.sl shTurn) d.2.2.2.2.2.1 + (0)))))) = _
  omega

set_option maxHeartbeats 1000000 in
theorem szDisk_any (cs : List Value) (d : shDisk.D) (left : Int) (w : World) (hr : Reads shDisk w cs d) (h0 : 0 ≤ left) (h1 : left ≤ 1048576) :
    Calls Try.prog 28 #[.agg cs.toArray, .int .i64 left] w fun e w' => e = .returned (.int .i64 (szAns (shDisk.sz d) left)) ∧ Below w.heap.size w w' := by
  obtain ⟨a3, n3, c3, a4, n4, c4, a5, n5, c5, rfl, r3, r4, r5⟩ := open_Disk hr
  obtain ⟨x0, e0⟩ : ∃ x : Int, x = d.1 := ⟨_, rfl⟩
  obtain ⟨x1, e1⟩ : ∃ x : Int, x = d.2.1 := ⟨_, rfl⟩
  obtain ⟨x2, e2⟩ : ∃ x : Int, x = d.2.2.1 := ⟨_, rfl⟩

  rw [sz_Disk]
  obtain ⟨k3, hk3⟩ : ∃ k, k = Sh.sz (.sl shNode) d.2.2.2.1 := ⟨_, rfl⟩
  have q3 : Hid (∀ w', Below w.heap.size w w' → ∀ l : Int, 0 ≤ l → l ≤ 1048576 → Calls Try.prog 48 #[.slice a3 n3 c3, .int .i64 l] w' fun e w'' => e = .returned (.int .i64 (szAns k3 l)) ∧ Below w'.heap.size w' w'') := fun w' hb l l0 l1 => by rw [hk3]; exact szNodeS_any a3 n3 c3 _ l w' (r3.later hb) l0 l1
  obtain ⟨k4, hk4⟩ : ∃ k, k = Sh.sz (.sl shLink) d.2.2.2.2.1 := ⟨_, rfl⟩
  have q4 : Hid (∀ w', Below w.heap.size w w' → ∀ l : Int, 0 ≤ l → l ≤ 1048576 → Calls Try.prog 49 #[.slice a4 n4 c4, .int .i64 l] w' fun e w'' => e = .returned (.int .i64 (szAns k4 l)) ∧ Below w'.heap.size w' w'') := fun w' hb l l0 l1 => by rw [hk4]; exact szLinkS_any a4 n4 c4 _ l w' (r4.later hb) l0 l1
  obtain ⟨k5, hk5⟩ : ∃ k, k = Sh.sz (.sl shTurn) d.2.2.2.2.2.1 := ⟨_, rfl⟩
  have q5 : Hid (∀ w', Below w.heap.size w w' → ∀ l : Int, 0 ≤ l → l ≤ 1048576 → Calls Try.prog 50 #[.slice a5 n5 c5, .int .i64 l] w' fun e w'' => e = .returned (.int .i64 (szAns k5 l)) ∧ Below w'.heap.size w' w'') := fun w' hb l l0 l1 => by rw [hk5]; exact szTurnS_any a5 n5 c5 _ l w' (r5.later hb) l0 l1
  rw [← hk3, ← hk4, ← hk5]
  rw [← e0, ← e1, ← e2]
  clear hr r3 r4 r5 hk3 hk4 hk5 e0 e1 e2
  obtain ⟨W0, hW0⟩ : ∃ W0, W0 = w.alloc (.cells #[.int .i64 x0, .int .i64 x1, .int .i64 x2, .slice a3 n3 c3, .slice a4 n4 c4, .slice a5 n5 c5] 41) := ⟨_, rfl⟩
  have bW0 : Below w.heap.size w W0 := by rw [hW0]; exact (Below.refl _ _).alloc (Nat.le_refl _) _
  have hbox : W0.heap[w.heap.size]? = some (.cells #[.int .i64 x0, .int .i64 x1, .int .i64 x2, .slice a3 n3 c3, .slice a4 n4 c4, .slice a5 n5 c5] 41 (0, 0)) := by rw [hW0]; exact heap_alloc_new w _
  have zW0 : W0.heap.size = w.heap.size + 1 := by rw [hW0]; simp
  have HW0 : Hid (W0 = _) := hW0
  have HBX : Hid _ := hbox
  clear hW0 hbox
  go_enter Try.func28, Try.ntmps28
  go_wp2_with fail
  rw [← HW0.out]
  refine (q3.out _ bW0 (left) (by omega) (by omega)).mono ?_
  rintro e w3 ⟨rfl, hb3⟩
  have b3 := bW0.trans (hb3.mono bW0.size)
  have i3 : w3.heap[w.heap.size]? = _ := (hb3.block _ (by rw [zW0]; omega)).trans HBX.out
  have z3 := hb3.size
  rw [zW0] at z3
  have y3_4 : w3.cell? ⟨w.heap.size, 4, none⟩ = some (.slice a4 n4 c4) := box_cell i3 rfl
  have y3_5 : w3.cell? ⟨w.heap.size, 5, none⟩ = some (.slice a5 n5 c5) := box_cell i3 rfl
  have I3 : Hid _ := i3
  clear i3 hb3
  by_cases t3 : (k3 : Int) ≤ left
  rotate_left
  · rw [szAns_no t3]
    have E : Hid (szAns (k3 + k4 + k5) left = -1) := szAns_no (by omega)
    go_wp2
    go_ret
    exact ⟨by rw [E.out]; rfl, b3⟩
  rw [szAns_yes t3]
  have u3 : ¬ (left - (k3 : Int) < 0) := by omega
  go_wp2_with fail
  refine (q4.out _ b3 (left - (k3 : Int)) (by omega) (by omega)).mono ?_
  rintro e w4 ⟨rfl, hb4⟩
  have b4 := b3.trans (hb4.mono b3.size)
  have i4 : w4.heap[w.heap.size]? = _ := (hb4.block _ (by omega)).trans I3.out
  have z4 := hb4.size
  have y4_5 : w4.cell? ⟨w.heap.size, 5, none⟩ = some (.slice a5 n5 c5) := box_cell i4 rfl
  have I4 : Hid _ := i4
  clear i4 hb4
  by_cases t4 : (k4 : Int) ≤ left - (k3 : Int)
  rotate_left
  · rw [szAns_no t4]
    have E : Hid (szAns (k3 + k4 + k5) left = -1) := szAns_no (by omega)
    go_wp2
    go_ret
    exact ⟨by rw [E.out]; rfl, b4⟩
  rw [szAns_yes t4]
  have u4 : ¬ (left - (k3 : Int) - (k4 : Int) < 0) := by omega
  go_wp2_with fail
  refine (q5.out _ b4 (left - (k3 : Int) - (k4 : Int)) (by omega) (by omega)).mono ?_
  rintro e w5 ⟨rfl, hb5⟩
  have b5 := b4.trans (hb5.mono b4.size)
  have i5 : w5.heap[w.heap.size]? = _ := (hb5.block _ (by omega)).trans I4.out
  have z5 := hb5.size
  have I5 : Hid _ := i5
  clear i5 hb5
  by_cases t5 : (k5 : Int) ≤ left - (k3 : Int) - (k4 : Int)
  rotate_left
  · rw [szAns_no t5]
    have E : Hid (szAns (k3 + k4 + k5) left = -1) := szAns_no (by omega)
    go_wp2
    go_ret
    exact ⟨by rw [E.out]; rfl, b5⟩
  rw [szAns_yes t5]
  have u5 : ¬ (left - (k3 : Int) - (k4 : Int) - (k5 : Int) < 0) := by omega
  have E : Hid (szAns (k3 + k4 + k5) left = left - (k3 : Int) - (k4 : Int) - (k5 : Int)) := by show _ = _; rw [szAns_yes (by omega)]; omega
  go_wp2
  go_ret
  exact ⟨by rw [E.out]; rfl, b5⟩

theorem opens_Disk {H : Type} {enc : TypeId × Value → H} {w : World} {spare : Nat → Bool} {held : Bool} : Opens enc Try.prog w spare held 41 shDisk := by
  refine opens_struct [.int, .int, .int, (.sl shNode), (.sl shLink), (.sl shTurn)] Try.underlying41 (by kernel_rfl) (fun i s hi => ?_)
  match i, hi with
  | 0, hi => obtain rfl := Option.some.inj hi; exact ⟨_, rfl, opens_int Try.underlying3 (by kernel_rfl), rfl⟩
  | 1, hi => obtain rfl := Option.some.inj hi; exact ⟨_, rfl, opens_int Try.underlying3 (by kernel_rfl), rfl⟩
  | 2, hi => obtain rfl := Option.some.inj hi; exact ⟨_, rfl, opens_int Try.underlying3 (by kernel_rfl), rfl⟩
  | 3, hi => obtain rfl := Option.some.inj hi; exact ⟨_, rfl, opens_sl Try.underlying37 (by kernel_rfl) (by decide) opens_Node, rfl⟩
  | 4, hi => obtain rfl := Option.some.inj hi; exact ⟨_, rfl, opens_sl Try.underlying38 (by kernel_rfl) (by decide) opens_Link, rfl⟩
  | 5, hi => obtain rfl := Option.some.inj hi; exact ⟨_, rfl, opens_sl Try.underlying39 (by kernel_rfl) (by decide) opens_Turn, rfl⟩
  | n + 6, hi => simp at hi

set_option maxRecDepth 100000 in
set_option maxHeartbeats 1000000 in
theorem toDisk_any (cs : List Value) (d : shDisk.D) (w : World) (hr : Reads shDisk w cs d) (hs : shDisk.sz d ≤ 1048576) :
    Calls Try.prog 32 #[.agg cs.toArray] w fun e w' => ∃ cs' F, e = .returned (.agg cs'.toArray) ∧ Own shDisk w' w.heap.size cs' d F ∧ F.Nodup ∧ Below w.heap.size w w' := by
  obtain ⟨a3, n3, c3, a4, n4, c4, a5, n5, c5, rfl, r3, r4, r5⟩ := open_Disk hr
  obtain ⟨x0, e0⟩ : ∃ x : Int, x = d.1 := ⟨_, rfl⟩
  obtain ⟨x1, e1⟩ : ∃ x : Int, x = d.2.1 := ⟨_, rfl⟩
  obtain ⟨x2, e2⟩ : ∃ x : Int, x = d.2.2.1 := ⟨_, rfl⟩

  rw [sz_Disk] at hs
  have q3 : Hid (∀ w', Below w.heap.size w w' → Calls Try.prog 52 #[.slice a3 n3 c3] w' fun e w'' => ∃ (g : Nat) (F : List Nat), e = .returned (.slice (some ⟨g, 0, none⟩) n3 n3) ∧ Own (.sl shNode) w'' w'.heap.size [.slice (some ⟨g, 0, none⟩) n3 n3] d.2.2.2.1 F ∧ F.Nodup ∧ Below w'.heap.size w' w'') := fun w' h' => toNodeS_own a3 n3 c3 _ w' (r3.later h') (by omega)
  have q4 : Hid (∀ w', Below w.heap.size w w' → Calls Try.prog 53 #[.slice a4 n4 c4] w' fun e w'' => ∃ (g : Nat) (F : List Nat), e = .returned (.slice (some ⟨g, 0, none⟩) n4 n4) ∧ Own (.sl shLink) w'' w'.heap.size [.slice (some ⟨g, 0, none⟩) n4 n4] d.2.2.2.2.1 F ∧ F.Nodup ∧ Below w'.heap.size w' w'') := fun w' h' => toLinkS_own a4 n4 c4 _ w' (r4.later h') (by omega)
  have q5 : Hid (∀ w', Below w.heap.size w w' → Calls Try.prog 54 #[.slice a5 n5 c5] w' fun e w'' => ∃ (g : Nat) (F : List Nat), e = .returned (.slice (some ⟨g, 0, none⟩) n5 n5) ∧ Own (.sl shTurn) w'' w'.heap.size [.slice (some ⟨g, 0, none⟩) n5 n5] d.2.2.2.2.2.1 F ∧ F.Nodup ∧ Below w'.heap.size w' w'') := fun w' h' => toTurnS_own a5 n5 c5 _ w' (r5.later h') (by omega)
  rw [← e0, ← e1, ← e2]
  have HE : Hid (x0 = d.1 ∧ x1 = d.2.1 ∧ x2 = d.2.2.1 ∧ True) := ⟨e0, e1, e2, trivial⟩
  obtain ⟨i0, i1, i2, isz⟩ := alloc3_heap w (.cells #[.int .i64 x0, .int .i64 x1, .int .i64 x2, .slice a3 n3 c3, .slice a4 n4 c4, .slice a5 n5 c5] 41) (.cells #[.int .i64 0, .int .i64 0, .int .i64 0, .slice none 0 0, .slice none 0 0, .slice none 0 0] 26) (.cells #[.int .i64 x0, .int .i64 x1, .int .i64 x2, .slice none 0 0, .slice none 0 0, .slice none 0 0] 26)
  obtain ⟨W0, hW0⟩ : ∃ W0, W0 = ((w.alloc (.cells #[.int .i64 x0, .int .i64 x1, .int .i64 x2, .slice a3 n3 c3, .slice a4 n4 c4, .slice a5 n5 c5] 41)).alloc (.cells #[.int .i64 0, .int .i64 0, .int .i64 0, .slice none 0 0, .slice none 0 0, .slice none 0 0] 26)).alloc (.cells #[.int .i64 x0, .int .i64 x1, .int .i64 x2, .slice none 0 0, .slice none 0 0, .slice none 0 0] 26) := ⟨_, rfl⟩
  rw [← hW0] at i0 i1 i2 isz
  have bW0 : Below w.heap.size w W0 := by rw [hW0]; exact (((Below.refl _ _).alloc (Nat.le_refl _) _).alloc (by simp) _).alloc (by simp; omega) _
  have HW0 : Hid (W0 = _) := hW0
  have HI : Hid (_ ∧ _ ∧ _) := ⟨i0, i1, i2⟩
  clear hr hs hW0 i0 i1 i2 r3 r4 r5 e0 e1 e2
  go_enter Try.func32, Try.ntmps32
  go_wp2_with fail
  rw [← HW0.out]
  refine (q3.out _ bW0).mono ?_
  rintro e w3 ⟨g3, F3, rfl, o3, nd3, hb3⟩
  have b3 := bW0.trans (hb3.mono bW0.size)
  have z3 := hb3.size
  have iA : w3.heap[w.heap.size]? = some (.cells #[.int .i64 x0, .int .i64 x1, .int .i64 x2, .slice a3 n3 c3, .slice a4 n4 c4, .slice a5 n5 c5] 41 (0, 0)) := (hb3.block _ (by omega)).trans HI.out.1
  have iB : w3.heap[w.heap.size + 1]? = some (.cells #[.int .i64 0, .int .i64 0, .int .i64 0, .slice none 0 0, .slice none 0 0, .slice none 0 0] 26 (0, 0)) := (hb3.block _ (by omega)).trans HI.out.2.1
  have iC : w3.heap[w.heap.size + 1 + 1]? = some (.cells #[.int .i64 x0, .int .i64 x1, .int .i64 x2, .slice none 0 0, .slice none 0 0, .slice none 0 0] 26 (0, 0)) := (hb3.block _ (by omega)).trans HI.out.2.2
  have ya3_4 : w3.cell? ⟨w.heap.size, 4, none⟩ = some (.slice a4 n4 c4) := box_cell iA rfl
  have ya3_5 : w3.cell? ⟨w.heap.size, 5, none⟩ = some (.slice a5 n5 c5) := box_cell iA rfl
  have yb3_3 : w3.cell? ⟨w.heap.size + 1 + 1, 3, none⟩ = some (.slice none 0 0) := box_cell iC rfl
  have yf3_3 : w3.frozen? ⟨w.heap.size + 1 + 1, 3, none⟩ = false := box_frozen iC
  obtain ⟨W3, hW3⟩ : ∃ W, W = (w3).setCell ⟨w.heap.size + 1 + 1, 3, none⟩ (.slice (some ⟨g3, 0, none⟩) n3 n3) := ⟨_, rfl⟩
  have bW3 : Below w.heap.size w W3 := by rw [hW3]; exact (b3.setCell (by simp <;> omega) _)
  have zW3 : w3.heap.size = W3.heap.size := by rw [hW3]; simp
  have jA : W3.heap[w.heap.size]? = some (.cells #[.int .i64 x0, .int .i64 x1, .int .i64 x2, .slice a3 n3 c3, .slice a4 n4 c4, .slice a5 n5 c5] 41 (0, 0)) := by rw [hW3]; exact ((box_other _ (by omega))).trans iA
  have jB : W3.heap[w.heap.size + 1]? = some (.cells #[.int .i64 0, .int .i64 0, .int .i64 0, .slice none 0 0, .slice none 0 0, .slice none 0 0] 26 (0, 0)) := by rw [hW3]; exact ((box_other _ (by omega))).trans iB
  have jC : W3.heap[w.heap.size + 1 + 1]? = some (.cells #[.int .i64 x0, .int .i64 x1, .int .i64 x2, .slice (some ⟨g3, 0, none⟩) n3 n3, .slice none 0 0, .slice none 0 0] 26 (0, 0)) := by rw [hW3]; exact box_set _ iC
  rw [isz] at o3
  have oW3_3 : Own (.sl shNode) W3 (w.heap.size + 1 + 1 + 1) [.slice (some ⟨g3, 0, none⟩) n3 n3] d.2.2.2.1 F3 := by rw [hW3]; exact o3.keep fun g hg => ((box_other _ (by have := (o3.lt g hg).1; omega)))
  have OW3_3 : Hid (Own (.sl shNode) W3 (w.heap.size + 1 + 1 + 1) [.slice (some ⟨g3, 0, none⟩) n3 n3] d.2.2.2.1 F3) := oW3_3
  have TOP3 : ∀ x ∈ F3, x < W3.heap.size := fun x hx => (oW3_3.lt x hx).2
  have HJ3 : Hid (_ ∧ _ ∧ _) := ⟨jA, jB, jC⟩
  go_wp2_with fail
  rw [← hW3]
  clear hW3 iA iB iC jA jB jC b3 hb3 o3 oW3_3 ya3_4 ya3_5 yb3_3 yf3_3
  refine (q4.out _ bW3).mono ?_
  rintro e w4 ⟨g4, F4, rfl, o4, nd4, hb4⟩
  have b4 := bW3.trans (hb4.mono bW3.size)
  have z4 := hb4.size
  have iA : w4.heap[w.heap.size]? = some (.cells #[.int .i64 x0, .int .i64 x1, .int .i64 x2, .slice a3 n3 c3, .slice a4 n4 c4, .slice a5 n5 c5] 41 (0, 0)) := (hb4.block _ (by omega)).trans HJ3.out.1
  have iB : w4.heap[w.heap.size + 1]? = some (.cells #[.int .i64 0, .int .i64 0, .int .i64 0, .slice none 0 0, .slice none 0 0, .slice none 0 0] 26 (0, 0)) := (hb4.block _ (by omega)).trans HJ3.out.2.1
  have iC : w4.heap[w.heap.size + 1 + 1]? = some (.cells #[.int .i64 x0, .int .i64 x1, .int .i64 x2, .slice (some ⟨g3, 0, none⟩) n3 n3, .slice none 0 0, .slice none 0 0] 26 (0, 0)) := (hb4.block _ (by omega)).trans HJ3.out.2.2
  have p3_4 := OW3_3.out.later hb4
  have ya4_5 : w4.cell? ⟨w.heap.size, 5, none⟩ = some (.slice a5 n5 c5) := box_cell iA rfl
  have yb4_4 : w4.cell? ⟨w.heap.size + 1 + 1, 4, none⟩ = some (.slice none 0 0) := box_cell iC rfl
  have yf4_4 : w4.frozen? ⟨w.heap.size + 1 + 1, 4, none⟩ = false := box_frozen iC
  obtain ⟨W4, hW4⟩ : ∃ W, W = (w4).setCell ⟨w.heap.size + 1 + 1, 4, none⟩ (.slice (some ⟨g4, 0, none⟩) n4 n4) := ⟨_, rfl⟩
  have bW4 : Below w.heap.size w W4 := by rw [hW4]; exact (b4.setCell (by simp <;> omega) _)
  have zW4 : w4.heap.size = W4.heap.size := by rw [hW4]; simp
  have jA : W4.heap[w.heap.size]? = some (.cells #[.int .i64 x0, .int .i64 x1, .int .i64 x2, .slice a3 n3 c3, .slice a4 n4 c4, .slice a5 n5 c5] 41 (0, 0)) := by rw [hW4]; exact ((box_other _ (by omega))).trans iA
  have jB : W4.heap[w.heap.size + 1]? = some (.cells #[.int .i64 0, .int .i64 0, .int .i64 0, .slice none 0 0, .slice none 0 0, .slice none 0 0] 26 (0, 0)) := by rw [hW4]; exact ((box_other _ (by omega))).trans iB
  have jC : W4.heap[w.heap.size + 1 + 1]? = some (.cells #[.int .i64 x0, .int .i64 x1, .int .i64 x2, .slice (some ⟨g3, 0, none⟩) n3 n3, .slice (some ⟨g4, 0, none⟩) n4 n4, .slice none 0 0] 26 (0, 0)) := by rw [hW4]; exact box_set _ iC
  have oW3_4 : Own (.sl shNode) W4 (w.heap.size + 1 + 1 + 1) [.slice (some ⟨g3, 0, none⟩) n3 n3] d.2.2.2.1 F3 := by rw [hW4]; exact p3_4.keep fun g hg => ((box_other _ (by have := (p3_4.lt g hg).1; omega)))
  have OW3_4 : Hid (Own (.sl shNode) W4 (w.heap.size + 1 + 1 + 1) [.slice (some ⟨g3, 0, none⟩) n3 n3] d.2.2.2.1 F3) := oW3_4
  have oW4_4 : Own (.sl shLink) W4 W3.heap.size [.slice (some ⟨g4, 0, none⟩) n4 n4] d.2.2.2.2.1 F4 := by rw [hW4]; exact o4.keep fun g hg => ((box_other _ (by have := (o4.lt g hg).1; omega)))
  have OW4_4 : Hid (Own (.sl shLink) W4 W3.heap.size [.slice (some ⟨g4, 0, none⟩) n4 n4] d.2.2.2.2.1 F4) := oW4_4
  have TOP4 : ∀ x ∈ F4, x < W4.heap.size := fun x hx => (oW4_4.lt x hx).2
  have HJ4 : Hid (_ ∧ _ ∧ _) := ⟨jA, jB, jC⟩
  go_wp2_with fail
  rw [← hW4]
  clear hW4 iA iB iC jA jB jC b4 hb4 p3_4 o4 oW3_4 oW4_4 ya4_5 yb4_4 yf4_4
  refine (q5.out _ bW4).mono ?_
  rintro e w5 ⟨g5, F5, rfl, o5, nd5, hb5⟩
  have b5 := bW4.trans (hb5.mono bW4.size)
  have z5 := hb5.size
  have iA : w5.heap[w.heap.size]? = some (.cells #[.int .i64 x0, .int .i64 x1, .int .i64 x2, .slice a3 n3 c3, .slice a4 n4 c4, .slice a5 n5 c5] 41 (0, 0)) := (hb5.block _ (by omega)).trans HJ4.out.1
  have iB : w5.heap[w.heap.size + 1]? = some (.cells #[.int .i64 0, .int .i64 0, .int .i64 0, .slice none 0 0, .slice none 0 0, .slice none 0 0] 26 (0, 0)) := (hb5.block _ (by omega)).trans HJ4.out.2.1
  have iC : w5.heap[w.heap.size + 1 + 1]? = some (.cells #[.int .i64 x0, .int .i64 x1, .int .i64 x2, .slice (some ⟨g3, 0, none⟩) n3 n3, .slice (some ⟨g4, 0, none⟩) n4 n4, .slice none 0 0] 26 (0, 0)) := (hb5.block _ (by omega)).trans HJ4.out.2.2
  have p3_5 := OW3_4.out.later hb5
  have p4_5 := OW4_4.out.later hb5
  have yb5_5 : w5.cell? ⟨w.heap.size + 1 + 1, 5, none⟩ = some (.slice none 0 0) := box_cell iC rfl
  have yf5_5 : w5.frozen? ⟨w.heap.size + 1 + 1, 5, none⟩ = false := box_frozen iC
  have yb5_0 : w5.cell? ⟨w.heap.size + 1 + 1, 0, none⟩ = some (.int .i64 x0) := box_cell iC rfl
  have yr5_0 : w5.cell? ⟨w.heap.size + 1, 0, none⟩ = some (.int .i64 0) := box_cell iB rfl
  have yg5_0 : w5.frozen? ⟨w.heap.size + 1, 0, none⟩ = false := box_frozen iB
  have yb5_1 : w5.cell? ⟨w.heap.size + 1 + 1, 1, none⟩ = some (.int .i64 x1) := box_cell iC rfl
  have yr5_1 : w5.cell? ⟨w.heap.size + 1, 1, none⟩ = some (.int .i64 0) := box_cell iB rfl
  have yg5_1 : w5.frozen? ⟨w.heap.size + 1, 1, none⟩ = false := box_frozen iB
  have yb5_2 : w5.cell? ⟨w.heap.size + 1 + 1, 2, none⟩ = some (.int .i64 x2) := box_cell iC rfl
  have yr5_2 : w5.cell? ⟨w.heap.size + 1, 2, none⟩ = some (.int .i64 0) := box_cell iB rfl
  have yg5_2 : w5.frozen? ⟨w.heap.size + 1, 2, none⟩ = false := box_frozen iB
  have yb5_3 : w5.cell? ⟨w.heap.size + 1 + 1, 3, none⟩ = some (.slice (some ⟨g3, 0, none⟩) n3 n3) := box_cell iC rfl
  have yr5_3 : w5.cell? ⟨w.heap.size + 1, 3, none⟩ = some (.slice none 0 0) := box_cell iB rfl
  have yg5_3 : w5.frozen? ⟨w.heap.size + 1, 3, none⟩ = false := box_frozen iB
  have yb5_4 : w5.cell? ⟨w.heap.size + 1 + 1, 4, none⟩ = some (.slice (some ⟨g4, 0, none⟩) n4 n4) := box_cell iC rfl
  have yr5_4 : w5.cell? ⟨w.heap.size + 1, 4, none⟩ = some (.slice none 0 0) := box_cell iB rfl
  have yg5_4 : w5.frozen? ⟨w.heap.size + 1, 4, none⟩ = false := box_frozen iB
  have yr5_5 : w5.cell? ⟨w.heap.size + 1, 5, none⟩ = some (.slice none 0 0) := box_cell iB rfl
  have yg5_5 : w5.frozen? ⟨w.heap.size + 1, 5, none⟩ = false := box_frozen iB
  have L3 := p3_5.lt
  have L4 := p4_5.lt
  have L5 := o5.lt
  have ND : (F3 ++ (F4 ++ (F5 ++ ([])))).Nodup := by
    simp only [List.append_nil, List.nodup_append]
    refine ⟨nd3, ⟨nd4, nd5, fun x hx y hy e => ?n4⟩, fun x hx y hy e => ?n3⟩
    case n3 =>
      subst e
      have h1 := TOP3 x hx
      rcases List.mem_append.1 hy with hy | hy
      · have h2 := L4 x hy; omega
      · have h2 := L5 x hy; omega
    case n4 =>
      subst e
      have h1 := TOP4 x hx; have h2 := L5 x hy; omega
  have HO : Hid ((∀ w', (∀ g, w.heap.size + 1 + 1 < g → w'.heap[g]? = w5.heap[g]?) → Own shDisk w' w.heap.size [.int .i64 x0, .int .i64 x1, .int .i64 x2, .slice (some ⟨g3, 0, none⟩) n3 n3, .slice (some ⟨g4, 0, none⟩) n4 n4, .slice (some ⟨g5, 0, none⟩) n5 n5] d (F3 ++ (F4 ++ (F5 ++ ([]))))) ∧ True) := ⟨fun w' hw' => by
    have := own_Disk (w := w') (B := w.heap.size) (d := d) ((p3_5.keep fun g hg => hw' g (by have := (L3 g hg).1; omega)).base (by omega)) ((p4_5.keep fun g hg => hw' g (by have := (L4 g hg).1; omega)).base (by omega)) ((o5.keep fun g hg => hw' g (by have := (L5 g hg).1; omega)).base (by omega))
    simpa only [← HE.out.1, ← HE.out.2.1, ← HE.out.2.2.1] using this, trivial⟩
  have HB : Hid (Below w.heap.size w w5) := b5
  have HN : Hid ((F3 ++ (F4 ++ (F5 ++ ([])))).Nodup) := ND
  clear iA iB iC ND b5 L3 L4 L5 p3_5 p4_5 o5
  have yz0 : (((w5).setCell ⟨w.heap.size + 1 + 1, 5, none⟩ (.slice (some ⟨g5, 0, none⟩) n5 n5)).setCell ⟨w.heap.size + 1, 0, none⟩ (.int .i64 x0)).cell? ⟨w.heap.size + 1, 0, none⟩ = some (.int .i64 x0) := World.cell?_setCell_same _ _ _ (by rw [World.cell?_setCell_other _ _ _ _ (by simp)]; exact yr5_0)
  have yz1 : ((((w5).setCell ⟨w.heap.size + 1 + 1, 5, none⟩ (.slice (some ⟨g5, 0, none⟩) n5 n5)).setCell ⟨w.heap.size + 1, 0, none⟩ (.int .i64 x0)).setCell ⟨w.heap.size + 1, 1, none⟩ (.int .i64 x1)).cell? ⟨w.heap.size + 1, 1, none⟩ = some (.int .i64 x1) := World.cell?_setCell_same _ _ _ (by rw [World.cell?_setCell_other _ _ _ _ (by simp), World.cell?_setCell_other _ _ _ _ (by simp)]; exact yr5_1)
  have yz2 : (((((w5).setCell ⟨w.heap.size + 1 + 1, 5, none⟩ (.slice (some ⟨g5, 0, none⟩) n5 n5)).setCell ⟨w.heap.size + 1, 0, none⟩ (.int .i64 x0)).setCell ⟨w.heap.size + 1, 1, none⟩ (.int .i64 x1)).setCell ⟨w.heap.size + 1, 2, none⟩ (.int .i64 x2)).cell? ⟨w.heap.size + 1, 2, none⟩ = some (.int .i64 x2) := World.cell?_setCell_same _ _ _ (by rw [World.cell?_setCell_other _ _ _ _ (by simp), World.cell?_setCell_other _ _ _ _ (by simp), World.cell?_setCell_other _ _ _ _ (by simp)]; exact yr5_2)
  have yz3 : ((((((w5).setCell ⟨w.heap.size + 1 + 1, 5, none⟩ (.slice (some ⟨g5, 0, none⟩) n5 n5)).setCell ⟨w.heap.size + 1, 0, none⟩ (.int .i64 x0)).setCell ⟨w.heap.size + 1, 1, none⟩ (.int .i64 x1)).setCell ⟨w.heap.size + 1, 2, none⟩ (.int .i64 x2)).setCell ⟨w.heap.size + 1, 3, none⟩ (.slice (some ⟨g3, 0, none⟩) n3 n3)).cell? ⟨w.heap.size + 1, 3, none⟩ = some (.slice (some ⟨g3, 0, none⟩) n3 n3) := World.cell?_setCell_same _ _ _ (by rw [World.cell?_setCell_other _ _ _ _ (by simp), World.cell?_setCell_other _ _ _ _ (by simp), World.cell?_setCell_other _ _ _ _ (by simp), World.cell?_setCell_other _ _ _ _ (by simp)]; exact yr5_3)
  have yz4 : (((((((w5).setCell ⟨w.heap.size + 1 + 1, 5, none⟩ (.slice (some ⟨g5, 0, none⟩) n5 n5)).setCell ⟨w.heap.size + 1, 0, none⟩ (.int .i64 x0)).setCell ⟨w.heap.size + 1, 1, none⟩ (.int .i64 x1)).setCell ⟨w.heap.size + 1, 2, none⟩ (.int .i64 x2)).setCell ⟨w.heap.size + 1, 3, none⟩ (.slice (some ⟨g3, 0, none⟩) n3 n3)).setCell ⟨w.heap.size + 1, 4, none⟩ (.slice (some ⟨g4, 0, none⟩) n4 n4)).cell? ⟨w.heap.size + 1, 4, none⟩ = some (.slice (some ⟨g4, 0, none⟩) n4 n4) := World.cell?_setCell_same _ _ _ (by rw [World.cell?_setCell_other _ _ _ _ (by simp), World.cell?_setCell_other _ _ _ _ (by simp), World.cell?_setCell_other _ _ _ _ (by simp), World.cell?_setCell_other _ _ _ _ (by simp), World.cell?_setCell_other _ _ _ _ (by simp)]; exact yr5_4)
  have yz5 : ((((((((w5).setCell ⟨w.heap.size + 1 + 1, 5, none⟩ (.slice (some ⟨g5, 0, none⟩) n5 n5)).setCell ⟨w.heap.size + 1, 0, none⟩ (.int .i64 x0)).setCell ⟨w.heap.size + 1, 1, none⟩ (.int .i64 x1)).setCell ⟨w.heap.size + 1, 2, none⟩ (.int .i64 x2)).setCell ⟨w.heap.size + 1, 3, none⟩ (.slice (some ⟨g3, 0, none⟩) n3 n3)).setCell ⟨w.heap.size + 1, 4, none⟩ (.slice (some ⟨g4, 0, none⟩) n4 n4)).setCell ⟨w.heap.size + 1, 5, none⟩ (.slice (some ⟨g5, 0, none⟩) n5 n5)).cell? ⟨w.heap.size + 1, 5, none⟩ = some (.slice (some ⟨g5, 0, none⟩) n5 n5) := World.cell?_setCell_same _ _ _ (by rw [World.cell?_setCell_other _ _ _ _ (by simp), World.cell?_setCell_other _ _ _ _ (by simp), World.cell?_setCell_other _ _ _ _ (by simp), World.cell?_setCell_other _ _ _ _ (by simp), World.cell?_setCell_other _ _ _ _ (by simp), World.cell?_setCell_other _ _ _ _ (by simp)]; exact yr5_5)
  go_wp2
  (try simp only [Exit.inBlock, Exit.then])
  refine bodyPost_ret (by simp [results, Try.results32, go_sem, yz0, yz1, yz2, yz3, yz4, yz5]; try rfl) rfl ?_
  refine ⟨_, _, rfl, HO.out.1 _ (fun g hg => ((box_other _ (by omega)).trans ((box_other _ (by omega)).trans ((box_other _ (by omega)).trans ((box_other _ (by omega)).trans ((box_other _ (by omega)).trans ((box_other _ (by omega)).trans (box_other _ (by omega))))))))), HN.out, ?_⟩
  exact (((((((HB.out.setCell (by simp <;> omega) _).setCell (by simp <;> omega) _).setCell (by simp <;> omega) _).setCell (by simp <;> omega) _).setCell (by simp <;> omega) _).setCell (by simp <;> omega) _).setCell (by simp <;> omega) _)

set_option maxRecDepth 100000 in
set_option maxHeartbeats 1000000 in
theorem eqDisk_any (cs1 cs2 : List Value) (d : shDisk.D) (w : World) (hr : Reads shDisk w cs1 d) (hq : Reads shDisk w cs2 d) (hs : shDisk.sz d ≤ 1048576) :
    Calls Try.prog 19 #[.agg cs1.toArray, .agg cs2.toArray] w fun e w' => e = .returned (.bool true) ∧ Below w.heap.size w w' := by
  obtain ⟨a3, n3, c3, a4, n4, c4, a5, n5, c5, rfl, r3, r4, r5⟩ := open_Disk hr
  obtain ⟨p3, m3, k3, p4, m4, k4, p5, m5, k5, rfl, t3, t4, t5⟩ := open_Disk hq
  obtain ⟨x0, e0⟩ : ∃ x : Int, x = d.1 := ⟨_, rfl⟩
  obtain ⟨x1, e1⟩ : ∃ x : Int, x = d.2.1 := ⟨_, rfl⟩
  obtain ⟨x2, e2⟩ : ∃ x : Int, x = d.2.2.1 := ⟨_, rfl⟩

  rw [sz_Disk] at hs
  obtain rfl : n3 = m3 := (reads_len r3).1.symm.trans (reads_len t3).1
  have q3 : Hid (∀ w', Below w.heap.size w w' → Calls Try.prog 37 #[.slice a3 n3 c3, .slice p3 n3 k3] w' fun e w'' => e = .returned (.bool true) ∧ Below w'.heap.size w' w'') := fun w' h' => eqNodeS_reads a3 p3 n3 c3 k3 _ w' (r3.later h') (t3.later h') (by omega)
  obtain rfl : n4 = m4 := (reads_len r4).1.symm.trans (reads_len t4).1
  have q4 : Hid (∀ w', Below w.heap.size w w' → Calls Try.prog 38 #[.slice a4 n4 c4, .slice p4 n4 k4] w' fun e w'' => e = .returned (.bool true) ∧ Below w'.heap.size w' w'') := fun w' h' => eqLinkS_reads a4 p4 n4 c4 k4 _ w' (r4.later h') (t4.later h') (by omega)
  obtain rfl : n5 = m5 := (reads_len r5).1.symm.trans (reads_len t5).1
  have q5 : Hid (∀ w', Below w.heap.size w w' → Calls Try.prog 39 #[.slice a5 n5 c5, .slice p5 n5 k5] w' fun e w'' => e = .returned (.bool true) ∧ Below w'.heap.size w' w'') := fun w' h' => eqTurnS_reads a5 p5 n5 c5 k5 _ w' (r5.later h') (t5.later h') (by omega)
  rw [← e0, ← e1, ← e2]
  have ne0 : (x0 != x0) = false := by simp
  have ne1 : (x1 != x1) = false := by simp
  have ne2 : (x2 != x2) = false := by simp
  clear hr hq hs r3 r4 r5 t3 t4 t5 e0 e1 e2
  obtain ⟨W0, hW0⟩ : ∃ W0, W0 = (w.alloc (.cells #[.int .i64 x0, .int .i64 x1, .int .i64 x2, .slice a3 n3 c3, .slice a4 n4 c4, .slice a5 n5 c5] 26)).alloc (.cells #[.int .i64 x0, .int .i64 x1, .int .i64 x2, .slice p3 n3 k3, .slice p4 n4 k4, .slice p5 n5 k5] 26) := ⟨_, rfl⟩
  have bW0 : Below w.heap.size w W0 := by rw [hW0]; exact ((Below.refl _ _).alloc (Nat.le_refl _) _).alloc (by simp) _
  have hA : W0.heap[w.heap.size]? = some (.cells #[.int .i64 x0, .int .i64 x1, .int .i64 x2, .slice a3 n3 c3, .slice a4 n4 c4, .slice a5 n5 c5] 26 (0, 0)) := by rw [hW0, heap_alloc_old _ _ (by simp)]; exact heap_alloc_new w _
  have hB : W0.heap[w.heap.size + 1]? = some (.cells #[.int .i64 x0, .int .i64 x1, .int .i64 x2, .slice p3 n3 k3, .slice p4 n4 k4, .slice p5 n5 k5] 26 (0, 0)) := by rw [hW0]; exact (by have := heap_alloc_new (w.alloc (.cells #[.int .i64 x0, .int .i64 x1, .int .i64 x2, .slice a3 n3 c3, .slice a4 n4 c4, .slice a5 n5 c5] 26)) (.cells #[.int .i64 x0, .int .i64 x1, .int .i64 x2, .slice p3 n3 k3, .slice p4 n4 k4, .slice p5 n5 k5] 26); simpa using this)
  have zW0 : W0.heap.size = w.heap.size + 1 + 1 := by rw [hW0]; simp
  have HW0 : Hid (W0 = _) := hW0
  have HAB : Hid (W0.heap[w.heap.size]? = some (.cells #[.int .i64 x0, .int .i64 x1, .int .i64 x2, .slice a3 n3 c3, .slice a4 n4 c4, .slice a5 n5 c5] 26 (0, 0)) ∧ W0.heap[w.heap.size + 1]? = some (.cells #[.int .i64 x0, .int .i64 x1, .int .i64 x2, .slice p3 n3 k3, .slice p4 n4 k4, .slice p5 n5 k5] 26 (0, 0))) := ⟨hA, hB⟩
  clear hW0 hA hB
  go_enter Try.func19, Try.ntmps19
  go_wp2_with fail
  rw [← HW0.out]
  refine (q3.out _ bW0).mono ?_
  rintro e w3 ⟨rfl, hb3⟩
  have b3 := bW0.trans (hb3.mono bW0.size)
  have z3 := hb3.size
  have iA : w3.heap[w.heap.size]? = some (.cells #[.int .i64 x0, .int .i64 x1, .int .i64 x2, .slice a3 n3 c3, .slice a4 n4 c4, .slice a5 n5 c5] 26 (0, 0)) := (hb3.block _ (by omega)).trans HAB.out.1
  have iB : w3.heap[w.heap.size + 1]? = some (.cells #[.int .i64 x0, .int .i64 x1, .int .i64 x2, .slice p3 n3 k3, .slice p4 n4 k4, .slice p5 n5 k5] 26 (0, 0)) := (hb3.block _ (by omega)).trans HAB.out.2
  have ya3_4 : w3.cell? ⟨w.heap.size, 4, none⟩ = some (.slice a4 n4 c4) := box_cell iA rfl
  have yb3_4 : w3.cell? ⟨w.heap.size + 1, 4, none⟩ = some (.slice p4 n4 k4) := box_cell iB rfl
  have ya3_5 : w3.cell? ⟨w.heap.size, 5, none⟩ = some (.slice a5 n5 c5) := box_cell iA rfl
  have yb3_5 : w3.cell? ⟨w.heap.size + 1, 5, none⟩ = some (.slice p5 n5 k5) := box_cell iB rfl
  have I3 : Hid (w3.heap[w.heap.size]? = some (.cells #[.int .i64 x0, .int .i64 x1, .int .i64 x2, .slice a3 n3 c3, .slice a4 n4 c4, .slice a5 n5 c5] 26 (0, 0)) ∧ w3.heap[w.heap.size + 1]? = some (.cells #[.int .i64 x0, .int .i64 x1, .int .i64 x2, .slice p3 n3 k3, .slice p4 n4 k4, .slice p5 n5 k5] 26 (0, 0))) := ⟨iA, iB⟩
  clear iA iB hb3
  go_wp2_with fail
  refine (q4.out _ b3).mono ?_
  rintro e w4 ⟨rfl, hb4⟩
  have b4 := b3.trans (hb4.mono b3.size)
  have z4 := hb4.size
  have iA : w4.heap[w.heap.size]? = some (.cells #[.int .i64 x0, .int .i64 x1, .int .i64 x2, .slice a3 n3 c3, .slice a4 n4 c4, .slice a5 n5 c5] 26 (0, 0)) := (hb4.block _ (by omega)).trans I3.out.1
  have iB : w4.heap[w.heap.size + 1]? = some (.cells #[.int .i64 x0, .int .i64 x1, .int .i64 x2, .slice p3 n3 k3, .slice p4 n4 k4, .slice p5 n5 k5] 26 (0, 0)) := (hb4.block _ (by omega)).trans I3.out.2
  have ya4_5 : w4.cell? ⟨w.heap.size, 5, none⟩ = some (.slice a5 n5 c5) := box_cell iA rfl
  have yb4_5 : w4.cell? ⟨w.heap.size + 1, 5, none⟩ = some (.slice p5 n5 k5) := box_cell iB rfl
  have I4 : Hid (w4.heap[w.heap.size]? = some (.cells #[.int .i64 x0, .int .i64 x1, .int .i64 x2, .slice a3 n3 c3, .slice a4 n4 c4, .slice a5 n5 c5] 26 (0, 0)) ∧ w4.heap[w.heap.size + 1]? = some (.cells #[.int .i64 x0, .int .i64 x1, .int .i64 x2, .slice p3 n3 k3, .slice p4 n4 k4, .slice p5 n5 k5] 26 (0, 0))) := ⟨iA, iB⟩
  clear iA iB hb4
  go_wp2_with fail
  refine (q5.out _ b4).mono ?_
  rintro e w5 ⟨rfl, hb5⟩
  have b5 := b4.trans (hb5.mono b4.size)
  have z5 := hb5.size
  have iA : w5.heap[w.heap.size]? = some (.cells #[.int .i64 x0, .int .i64 x1, .int .i64 x2, .slice a3 n3 c3, .slice a4 n4 c4, .slice a5 n5 c5] 26 (0, 0)) := (hb5.block _ (by omega)).trans I4.out.1
  have iB : w5.heap[w.heap.size + 1]? = some (.cells #[.int .i64 x0, .int .i64 x1, .int .i64 x2, .slice p3 n3 k3, .slice p4 n4 k4, .slice p5 n5 k5] 26 (0, 0)) := (hb5.block _ (by omega)).trans I4.out.2
  have I5 : Hid (w5.heap[w.heap.size]? = some (.cells #[.int .i64 x0, .int .i64 x1, .int .i64 x2, .slice a3 n3 c3, .slice a4 n4 c4, .slice a5 n5 c5] 26 (0, 0)) ∧ w5.heap[w.heap.size + 1]? = some (.cells #[.int .i64 x0, .int .i64 x1, .int .i64 x2, .slice p3 n3 k3, .slice p4 n4 k4, .slice p5 n5 k5] 26 (0, 0))) := ⟨iA, iB⟩
  clear iA iB hb5
  go_wp2
  go_ret
  exact ⟨rfl, b5⟩

end Go.Proofs.Ytdmgknmlgipnpaa
