/-
  The type Node of the laws: its shape, and what szNode, toNode, eqNode and those of its slices do. By program (tygen.py).
-/
import Derived.Test.YtdmgknmlgipnpaaTyBase
import Derived.Handy
import Derived.Deep.RegionHeld3
namespace Go.Proofs.Ytdmgknmlgipnpaa
open Go.RowKit
set_option linter.unusedVariables false

def shNode : Sh := Sh.ofL [.int, (.sl .u8), (.sl .u8)]

theorem open_Node {w : World} {cs : List Value} {d : shNode.D} (h : Reads shNode w cs d) :
    ∃ a1 n1 c1 a2 n2 c2, cs = [.int .i64 (d.1), .slice a1 n1 c1, .slice a2 n2 c2] ∧ Reads (.sl .u8) w [.slice a1 n1 c1] d.2.1 ∧ Reads (.sl .u8) w [.slice a2 n2 c2] d.2.2.1 := by
  obtain ⟨_, _, rfl, h0, _, _, rfl, h1, _, _, rfl, h2, hE⟩ := h
  have e0 : _ = _ := h0
  have g1 := h1
  obtain ⟨a1, c1, e1, _⟩ := g1
  have g2 := h2
  obtain ⟨a2, c2, e2, _⟩ := g2
  have eE : _ = _ := hE
  subst e0 e1 e2 eE
  exact ⟨a1, _, c1, a2, _, c2, rfl, h1, h2⟩

theorem own_Node {w : World} {B : Nat} {d : shNode.D} {v1 : Value} {F1 : List Nat} {v2 : Value} {F2 : List Nat} (o1 : Own (.sl .u8) w B [v1] d.2.1 F1) (o2 : Own (.sl .u8) w B [v2] d.2.2.1 F2) :
    Own shNode w B [.int .i64 (d.1), v1, v2] d (F1 ++ (F2 ++ ([]))) := by
  exact ⟨[_], _, [], F1 ++ (F2 ++ ([])), rfl, rfl, ⟨rfl, rfl⟩, ⟨[_], _, F1, F2 ++ ([]), rfl, rfl, o1, ⟨[_], _, F2, [], rfl, rfl, o2, ⟨rfl, rfl⟩⟩⟩⟩

theorem size_Node : shNode.size = 3 := rfl

theorem sz_Node (d : shNode.D) : shNode.sz d = Sh.sz (.sl .u8) d.2.1 + Sh.sz (.sl .u8) d.2.2.1 := by
  show 0 + (Sh.sz (.sl .u8) d.2.1 + (Sh.sz (.sl .u8) d.2.2.1 + (0))) = _
  omega

set_option maxHeartbeats 1000000 in
theorem szNode_any (cs : List Value) (d : shNode.D) (left : Int) (w : World) (hr : Reads shNode w cs d) (h0 : 0 ≤ left) (h1 : left ≤ 1048576) :
    Calls Try.prog 62 #[.agg cs.toArray, .int .i64 left] w fun e w' => e = .returned (.int .i64 (szAns (shNode.sz d) left)) ∧ Below w.heap.size w w' := by
  obtain ⟨a1, n1, c1, a2, n2, c2, rfl, r1, r2⟩ := open_Node hr
  obtain ⟨x0, e0⟩ : ∃ x : Int, x = d.1 := ⟨_, rfl⟩

  rw [sz_Node]
  obtain ⟨k1, hk1⟩ : ∃ k, k = Sh.sz (.sl .u8) d.2.1 := ⟨_, rfl⟩
  have q1 : Hid (∀ w', Below w.heap.size w w' → ∀ l : Int, 0 ≤ l → l ≤ 1048576 → Calls Try.prog 70 #[.slice a1 n1 c1, .int .i64 l] w' fun e w'' => e = .returned (.int .i64 (szAns k1 l)) ∧ Below w'.heap.size w' w'') := fun w' hb l l0 l1 => by rw [hk1]; exact szByteS_any a1 n1 c1 _ l w' (r1.later hb) l0 l1
  obtain ⟨k2, hk2⟩ : ∃ k, k = Sh.sz (.sl .u8) d.2.2.1 := ⟨_, rfl⟩
  have q2 : Hid (∀ w', Below w.heap.size w w' → ∀ l : Int, 0 ≤ l → l ≤ 1048576 → Calls Try.prog 70 #[.slice a2 n2 c2, .int .i64 l] w' fun e w'' => e = .returned (.int .i64 (szAns k2 l)) ∧ Below w'.heap.size w' w'') := fun w' hb l l0 l1 => by rw [hk2]; exact szByteS_any a2 n2 c2 _ l w' (r2.later hb) l0 l1
  rw [← hk1, ← hk2]
  rw [← e0]
  clear hr r1 r2 hk1 hk2 e0
  obtain ⟨W0, hW0⟩ : ∃ W0, W0 = w.alloc (.cells #[.int .i64 x0, .slice a1 n1 c1, .slice a2 n2 c2] 100) := ⟨_, rfl⟩
  have bW0 : Below w.heap.size w W0 := by rw [hW0]; exact (Below.refl _ _).alloc (Nat.le_refl _) _
  have hbox : W0.heap[w.heap.size]? = some (.cells #[.int .i64 x0, .slice a1 n1 c1, .slice a2 n2 c2] 100 (0, 0)) := by rw [hW0]; exact heap_alloc_new w _
  have zW0 : W0.heap.size = w.heap.size + 1 := by rw [hW0]; simp
  have HW0 : Hid (W0 = _) := hW0
  have HBX : Hid _ := hbox
  clear hW0 hbox
  go_enter Try.func62, Try.ntmps62
  go_wp2_with fail
  rw [← HW0.out]
  refine (q1.out _ bW0 (left) (by omega) (by omega)).mono ?_
  rintro e w1 ⟨rfl, hb1⟩
  have b1 := bW0.trans (hb1.mono bW0.size)
  have i1 : w1.heap[w.heap.size]? = _ := (hb1.block _ (by rw [zW0]; omega)).trans HBX.out
  have z1 := hb1.size
  rw [zW0] at z1
  have y1_2 : w1.cell? ⟨w.heap.size, 2, none⟩ = some (.slice a2 n2 c2) := box_cell i1 rfl
  have I1 : Hid _ := i1
  clear i1 hb1
  by_cases t1 : (k1 : Int) ≤ left
  rotate_left
  · rw [szAns_no t1]
    have E : Hid (szAns (k1 + k2) left = -1) := szAns_no (by omega)
    go_wp2
    go_ret
    exact ⟨by rw [E.out]; rfl, b1⟩
  rw [szAns_yes t1]
  have u1 : ¬ (left - (k1 : Int) < 0) := by omega
  go_wp2_with fail
  refine (q2.out _ b1 (left - (k1 : Int)) (by omega) (by omega)).mono ?_
  rintro e w2 ⟨rfl, hb2⟩
  have b2 := b1.trans (hb2.mono b1.size)
  have i2 : w2.heap[w.heap.size]? = _ := (hb2.block _ (by omega)).trans I1.out
  have z2 := hb2.size
  have I2 : Hid _ := i2
  clear i2 hb2
  by_cases t2 : (k2 : Int) ≤ left - (k1 : Int)
  rotate_left
  · rw [szAns_no t2]
    have E : Hid (szAns (k1 + k2) left = -1) := szAns_no (by omega)
    go_wp2
    go_ret
    exact ⟨by rw [E.out]; rfl, b2⟩
  rw [szAns_yes t2]
  have u2 : ¬ (left - (k1 : Int) - (k2 : Int) < 0) := by omega
  have E : Hid (szAns (k1 + k2) left = left - (k1 : Int) - (k2 : Int)) := by show _ = _; rw [szAns_yes (by omega)]; omega
  go_wp2
  go_ret
  exact ⟨by rw [E.out]; rfl, b2⟩

theorem opens_Node {H : Type} {enc : TypeId × Value → H} {w : World} {spare : Nat → Bool} {held : Bool} : Opens enc Try.prog w spare held 100 shNode := by
  refine opens_struct [.int, (.sl .u8), (.sl .u8)] Try.underlying100 (by kernel_rfl) (fun i s hi => ?_)
  match i, hi with
  | 0, hi => obtain rfl := Option.some.inj hi; exact ⟨_, rfl, opens_int Try.underlying3 (by kernel_rfl), rfl⟩
  | 1, hi => obtain rfl := Option.some.inj hi; exact ⟨_, rfl, opens_sl Try.underlying89 (by kernel_rfl) (by decide) (opens_u8 Try.underlying5 (by kernel_rfl)), rfl⟩
  | 2, hi => obtain rfl := Option.some.inj hi; exact ⟨_, rfl, opens_sl Try.underlying89 (by kernel_rfl) (by decide) (opens_u8 Try.underlying5 (by kernel_rfl)), rfl⟩
  | n + 3, hi => simp at hi

set_option maxRecDepth 100000 in
set_option maxHeartbeats 1000000 in
theorem toNode_any (cs : List Value) (d : shNode.D) (w : World) (hr : Reads shNode w cs d) (hs : shNode.sz d ≤ 1048576) :
    Calls Try.prog 65 #[.agg cs.toArray] w fun e w' => ∃ cs' F, e = .returned (.agg cs'.toArray) ∧ Own shNode w' w.heap.size cs' d F ∧ F.Nodup ∧ Below w.heap.size w w' := by
  obtain ⟨a1, n1, c1, a2, n2, c2, rfl, r1, r2⟩ := open_Node hr
  obtain ⟨x0, e0⟩ : ∃ x : Int, x = d.1 := ⟨_, rfl⟩

  rw [sz_Node] at hs
  have q1 : Hid (∀ w', Below w.heap.size w w' → Calls Try.prog 71 #[.slice a1 n1 c1] w' fun e w'' => ∃ (g : Nat) (F : List Nat), e = .returned (.slice (some ⟨g, 0, none⟩) n1 n1) ∧ Own (.sl .u8) w'' w'.heap.size [.slice (some ⟨g, 0, none⟩) n1 n1] d.2.1 F ∧ F.Nodup ∧ Below w'.heap.size w' w'') := fun w' h' => toByteS_own a1 n1 c1 _ w' (r1.later h') (by omega)
  have q2 : Hid (∀ w', Below w.heap.size w w' → Calls Try.prog 71 #[.slice a2 n2 c2] w' fun e w'' => ∃ (g : Nat) (F : List Nat), e = .returned (.slice (some ⟨g, 0, none⟩) n2 n2) ∧ Own (.sl .u8) w'' w'.heap.size [.slice (some ⟨g, 0, none⟩) n2 n2] d.2.2.1 F ∧ F.Nodup ∧ Below w'.heap.size w' w'') := fun w' h' => toByteS_own a2 n2 c2 _ w' (r2.later h') (by omega)
  rw [← e0]
  have HE : Hid (x0 = d.1 ∧ True) := ⟨e0, trivial⟩
  obtain ⟨i0, i1, i2, isz⟩ := alloc3_heap w (.cells #[.int .i64 x0, .slice a1 n1 c1, .slice a2 n2 c2] 100) (.cells #[.int .i64 0, .slice none 0 0, .slice none 0 0] 91) (.cells #[.int .i64 x0, .slice none 0 0, .slice none 0 0] 91)
  obtain ⟨W0, hW0⟩ : ∃ W0, W0 = ((w.alloc (.cells #[.int .i64 x0, .slice a1 n1 c1, .slice a2 n2 c2] 100)).alloc (.cells #[.int .i64 0, .slice none 0 0, .slice none 0 0] 91)).alloc (.cells #[.int .i64 x0, .slice none 0 0, .slice none 0 0] 91) := ⟨_, rfl⟩
  rw [← hW0] at i0 i1 i2 isz
  have bW0 : Below w.heap.size w W0 := by rw [hW0]; exact (((Below.refl _ _).alloc (Nat.le_refl _) _).alloc (by simp) _).alloc (by simp; omega) _
  have HW0 : Hid (W0 = _) := hW0
  have HI : Hid (_ ∧ _ ∧ _) := ⟨i0, i1, i2⟩
  clear hr hs hW0 i0 i1 i2 r1 r2 e0
  go_enter Try.func65, Try.ntmps65
  go_wp2_with fail
  rw [← HW0.out]
  refine (q1.out _ bW0).mono ?_
  rintro e w1 ⟨g1, F1, rfl, o1, nd1, hb1⟩
  have b1 := bW0.trans (hb1.mono bW0.size)
  have z1 := hb1.size
  have iA : w1.heap[w.heap.size]? = some (.cells #[.int .i64 x0, .slice a1 n1 c1, .slice a2 n2 c2] 100 (0, 0)) := (hb1.block _ (by omega)).trans HI.out.1
  have iB : w1.heap[w.heap.size + 1]? = some (.cells #[.int .i64 0, .slice none 0 0, .slice none 0 0] 91 (0, 0)) := (hb1.block _ (by omega)).trans HI.out.2.1
  have iC : w1.heap[w.heap.size + 1 + 1]? = some (.cells #[.int .i64 x0, .slice none 0 0, .slice none 0 0] 91 (0, 0)) := (hb1.block _ (by omega)).trans HI.out.2.2
  have ya1_2 : w1.cell? ⟨w.heap.size, 2, none⟩ = some (.slice a2 n2 c2) := box_cell iA rfl
  have yb1_1 : w1.cell? ⟨w.heap.size + 1 + 1, 1, none⟩ = some (.slice none 0 0) := box_cell iC rfl
  have yf1_1 : w1.frozen? ⟨w.heap.size + 1 + 1, 1, none⟩ = false := box_frozen iC
  obtain ⟨W1, hW1⟩ : ∃ W, W = (w1).setCell ⟨w.heap.size + 1 + 1, 1, none⟩ (.slice (some ⟨g1, 0, none⟩) n1 n1) := ⟨_, rfl⟩
  have bW1 : Below w.heap.size w W1 := by rw [hW1]; exact (b1.setCell (by simp <;> omega) _)
  have zW1 : w1.heap.size = W1.heap.size := by rw [hW1]; simp
  have jA : W1.heap[w.heap.size]? = some (.cells #[.int .i64 x0, .slice a1 n1 c1, .slice a2 n2 c2] 100 (0, 0)) := by rw [hW1]; exact ((box_other _ (by omega))).trans iA
  have jB : W1.heap[w.heap.size + 1]? = some (.cells #[.int .i64 0, .slice none 0 0, .slice none 0 0] 91 (0, 0)) := by rw [hW1]; exact ((box_other _ (by omega))).trans iB
  have jC : W1.heap[w.heap.size + 1 + 1]? = some (.cells #[.int .i64 x0, .slice (some ⟨g1, 0, none⟩) n1 n1, .slice none 0 0] 91 (0, 0)) := by rw [hW1]; exact box_set _ iC
  rw [isz] at o1
  have oW1_1 : Own (.sl .u8) W1 (w.heap.size + 1 + 1 + 1) [.slice (some ⟨g1, 0, none⟩) n1 n1] d.2.1 F1 := by rw [hW1]; exact o1.keep fun g hg => ((box_other _ (by have := (o1.lt g hg).1; omega)))
  have OW1_1 : Hid (Own (.sl .u8) W1 (w.heap.size + 1 + 1 + 1) [.slice (some ⟨g1, 0, none⟩) n1 n1] d.2.1 F1) := oW1_1
  have TOP1 : ∀ x ∈ F1, x < W1.heap.size := fun x hx => (oW1_1.lt x hx).2
  have HJ1 : Hid (_ ∧ _ ∧ _) := ⟨jA, jB, jC⟩
  go_wp2_with fail
  rw [← hW1]
  clear hW1 iA iB iC jA jB jC b1 hb1 o1 oW1_1 ya1_2 yb1_1 yf1_1
  refine (q2.out _ bW1).mono ?_
  rintro e w2 ⟨g2, F2, rfl, o2, nd2, hb2⟩
  have b2 := bW1.trans (hb2.mono bW1.size)
  have z2 := hb2.size
  have iA : w2.heap[w.heap.size]? = some (.cells #[.int .i64 x0, .slice a1 n1 c1, .slice a2 n2 c2] 100 (0, 0)) := (hb2.block _ (by omega)).trans HJ1.out.1
  have iB : w2.heap[w.heap.size + 1]? = some (.cells #[.int .i64 0, .slice none 0 0, .slice none 0 0] 91 (0, 0)) := (hb2.block _ (by omega)).trans HJ1.out.2.1
  have iC : w2.heap[w.heap.size + 1 + 1]? = some (.cells #[.int .i64 x0, .slice (some ⟨g1, 0, none⟩) n1 n1, .slice none 0 0] 91 (0, 0)) := (hb2.block _ (by omega)).trans HJ1.out.2.2
  have p1_2 := OW1_1.out.later hb2
  have yb2_2 : w2.cell? ⟨w.heap.size + 1 + 1, 2, none⟩ = some (.slice none 0 0) := box_cell iC rfl
  have yf2_2 : w2.frozen? ⟨w.heap.size + 1 + 1, 2, none⟩ = false := box_frozen iC
  have yb2_0 : w2.cell? ⟨w.heap.size + 1 + 1, 0, none⟩ = some (.int .i64 x0) := box_cell iC rfl
  have yr2_0 : w2.cell? ⟨w.heap.size + 1, 0, none⟩ = some (.int .i64 0) := box_cell iB rfl
  have yg2_0 : w2.frozen? ⟨w.heap.size + 1, 0, none⟩ = false := box_frozen iB
  have yb2_1 : w2.cell? ⟨w.heap.size + 1 + 1, 1, none⟩ = some (.slice (some ⟨g1, 0, none⟩) n1 n1) := box_cell iC rfl
  have yr2_1 : w2.cell? ⟨w.heap.size + 1, 1, none⟩ = some (.slice none 0 0) := box_cell iB rfl
  have yg2_1 : w2.frozen? ⟨w.heap.size + 1, 1, none⟩ = false := box_frozen iB
  have yr2_2 : w2.cell? ⟨w.heap.size + 1, 2, none⟩ = some (.slice none 0 0) := box_cell iB rfl
  have yg2_2 : w2.frozen? ⟨w.heap.size + 1, 2, none⟩ = false := box_frozen iB
  have L1 := p1_2.lt
  have L2 := o2.lt
  have ND : (F1 ++ (F2 ++ ([]))).Nodup := by
    simp only [List.append_nil, List.nodup_append]
    refine ⟨nd1, nd2, fun x hx y hy e => ?n1⟩
    case n1 =>
      subst e
      have h1 := TOP1 x hx; have h2 := L2 x hy; omega
  have HO : Hid ((∀ w', (∀ g, w.heap.size + 1 + 1 < g → w'.heap[g]? = w2.heap[g]?) → Own shNode w' w.heap.size [.int .i64 x0, .slice (some ⟨g1, 0, none⟩) n1 n1, .slice (some ⟨g2, 0, none⟩) n2 n2] d (F1 ++ (F2 ++ ([])))) ∧ True) := ⟨fun w' hw' => by
    have := own_Node (w := w') (B := w.heap.size) (d := d) ((p1_2.keep fun g hg => hw' g (by have := (L1 g hg).1; omega)).base (by omega)) ((o2.keep fun g hg => hw' g (by have := (L2 g hg).1; omega)).base (by omega))
    simpa only [← HE.out.1] using this, trivial⟩
  have HB : Hid (Below w.heap.size w w2) := b2
  have HN : Hid ((F1 ++ (F2 ++ ([]))).Nodup) := ND
  clear iA iB iC ND b2 L1 L2 p1_2 o2
  have yz0 : (((w2).setCell ⟨w.heap.size + 1 + 1, 2, none⟩ (.slice (some ⟨g2, 0, none⟩) n2 n2)).setCell ⟨w.heap.size + 1, 0, none⟩ (.int .i64 x0)).cell? ⟨w.heap.size + 1, 0, none⟩ = some (.int .i64 x0) := World.cell?_setCell_same _ _ _ (by rw [World.cell?_setCell_other _ _ _ _ (by simp)]; exact yr2_0)
  have yz1 : ((((w2).setCell ⟨w.heap.size + 1 + 1, 2, none⟩ (.slice (some ⟨g2, 0, none⟩) n2 n2)).setCell ⟨w.heap.size + 1, 0, none⟩ (.int .i64 x0)).setCell ⟨w.heap.size + 1, 1, none⟩ (.slice (some ⟨g1, 0, none⟩) n1 n1)).cell? ⟨w.heap.size + 1, 1, none⟩ = some (.slice (some ⟨g1, 0, none⟩) n1 n1) := World.cell?_setCell_same _ _ _ (by rw [World.cell?_setCell_other _ _ _ _ (by simp), World.cell?_setCell_other _ _ _ _ (by simp)]; exact yr2_1)
  have yz2 : (((((w2).setCell ⟨w.heap.size + 1 + 1, 2, none⟩ (.slice (some ⟨g2, 0, none⟩) n2 n2)).setCell ⟨w.heap.size + 1, 0, none⟩ (.int .i64 x0)).setCell ⟨w.heap.size + 1, 1, none⟩ (.slice (some ⟨g1, 0, none⟩) n1 n1)).setCell ⟨w.heap.size + 1, 2, none⟩ (.slice (some ⟨g2, 0, none⟩) n2 n2)).cell? ⟨w.heap.size + 1, 2, none⟩ = some (.slice (some ⟨g2, 0, none⟩) n2 n2) := World.cell?_setCell_same _ _ _ (by rw [World.cell?_setCell_other _ _ _ _ (by simp), World.cell?_setCell_other _ _ _ _ (by simp), World.cell?_setCell_other _ _ _ _ (by simp)]; exact yr2_2)
  go_wp2
  (try simp only [Exit.inBlock, Exit.then])
  refine bodyPost_ret (by simp [results, Try.results65, go_sem, yz0, yz1, yz2]; try rfl) rfl ?_
  refine ⟨_, _, rfl, HO.out.1 _ (fun g hg => ((box_other _ (by omega)).trans ((box_other _ (by omega)).trans ((box_other _ (by omega)).trans (box_other _ (by omega)))))), HN.out, ?_⟩
  exact ((((HB.out.setCell (by simp <;> omega) _).setCell (by simp <;> omega) _).setCell (by simp <;> omega) _).setCell (by simp <;> omega) _)

set_option maxRecDepth 100000 in
set_option maxHeartbeats 1000000 in
theorem szNodeS_any (a : Option Addr) (n cap : Nat) (d : List shNode.D) (left : Int) (w : World) (hr : Reads (.sl shNode) w [.slice a n cap] d) (h0 : 0 ≤ left) (h1 : left ≤ 1048576) :
    Calls Try.prog 48 #[.slice a n cap, .int .i64 left] w fun e w' => e = .returned (.int .i64 (szAns (Sh.sz (.sl shNode) d) left)) ∧ Below w.heap.size w w' := by
  obtain ⟨hl, hc1, hc2⟩ := reads_len hr
  unfold maxLen at hc2
  obtain ⟨K, hK⟩ : ∃ K, K = (List.map shNode.sz d).sum := ⟨_, rfl⟩
  have hs : Sh.sz (.sl shNode) d = n + K := by rw [hK, ← hl]; rfl
  rw [hs]
  have HR : Hid (Reads (.sl shNode) w [.slice a n cap] d) := hr
  have HK : Hid (K = (List.map shNode.sz d).sum) := hK
  have HL : Hid (d.length = n) := hl
  clear hr hK hs hl
  by_cases h : (n : Int) ≤ left
  · have h2 : ¬ (left - (n : Int) < 0) := by omega
    go_enter Try.func48, Try.ntmps48
    go_wp2
    go_loopw [1, 5] (fun l i wr => ∃ k S : Nat, k ≤ n ∧ i = .int .i64 k ∧ l = .int .i64 (left - n - S) ∧ Hid (S = szTo shNode d k) ∧ (n : Int) + S ≤ left ∧ Below w.heap.size w wr) (fun _ i _ => n - (intOf i).toNat)
    case atStart => exact ⟨0, 0, by omega, rfl, by simp, (szTo_zero _ _).symm, by omega, Below.refl _ _⟩
    case round =>
      obtain ⟨k, S, hk, rfl, rfl, hS, hle, hbel⟩ := hrel
      by_cases hlt : k < n
      · obtain ⟨b, off, c, x, rfl, hb, hx, hrx, hcell⟩ := reads_elem HR.out k hlt
        have Sx := szTo_succ shNode d k x hx
        have Sle := szTo_le shNode d (k + 1)
        obtain ⟨X, hX⟩ : ∃ X, X = shNode.sz x := ⟨_, rfl⟩
        have q : Hid (∀ l : Int, 0 ≤ l → l ≤ 1048576 → Calls Try.prog 62 #[.agg c.toArray, .int .i64 l] wr fun e w'' => e = .returned (.int .i64 (szAns X l)) ∧ Below wr.heap.size wr w'') := fun l l0 l1 => by rw [hX]; exact szNode_any c x l wr (hrx.later hbel) l0 l1
        have HX : Hid (szTo shNode d (k + 1) = S + X ∧ S + X ≤ K) := ⟨by rw [Sx, hS.out, hX], by rw [HK.out, hS.out, hX, ← Sx]; exact Sle⟩
        have hXK := HX.out.2
        obtain ⟨a1, n1, c1, a2, n2, c2, rfl, _, _⟩ := open_Node hrx
        obtain ⟨y0, ey0⟩ : ∃ y : Int, y = x.1 := ⟨_, rfl⟩
        have g0 : wr.cell? ⟨b, off + k * 3, none⟩ = some (.int .i64 y0) := by rw [ey0]; exact (hbel.cell (p := ⟨b, off + (k * 3 + 0), none⟩) hb).trans (hcell 0 (by decide))
        have g1 : wr.cell? ⟨b, off + k * 3 + 1, none⟩ = some (.slice a1 n1 c1) := by exact (hbel.cell (p := ⟨b, off + (k * 3 + 1), none⟩) hb).trans (hcell 1 (by decide))
        have g2 : wr.cell? ⟨b, off + k * 3 + 2, none⟩ = some (.slice a2 n2 c2) := by exact (hbel.cell (p := ⟨b, off + (k * 3 + 2), none⟩) hb).trans (hcell 2 (by decide))
        rw [← ey0] at q
        clear hcell hrx Sx Sle hX hx ey0
        go_wp2_with fail
        refine (q.out (left - n - S) (by omega) (by omega)).mono ?_
        rintro e w1 ⟨rfl, hb1⟩
        have hbel1 := hbel.trans (hb1.mono hbel.size)
        clear g0 g1 g2
        by_cases t : (X : Int) ≤ left - n - S
        · rw [szAns_yes t]
          have u : ¬ (left - (n : Int) - (S : Int) - (X : Int) < 0) := by omega
          go_wp2
          go_roundw
          case rel => exact ⟨k + 1, S + X, by omega, by go_num, by congr 1; omega, HX.out.1.symm, by omega, hbel1⟩
          case measure => simp [intOf]; omega
        · rw [szAns_no t]
          have E : Hid (szAns (n + K) left = -1) := szAns_no (by omega)
          go_wp2
          go_ret
          exact ⟨by rw [E.out]; rfl, hbel1⟩
      · have e : k = n := by omega
        subst e
        have E : Hid (szAns (k + K) left = left - k - S) := by
          show _ = _
          have h3 : S = K := by rw [hS.out, HK.out]; exact szTo_all _ _ _ (by rw [HL.out]; exact Nat.le_refl _)
          rw [szAns_yes (by omega)]; omega
        go_wp2
        go_ret
        exact ⟨by rw [E.out]; rfl, hbel⟩
  · have h2 : (left - (n : Int) < 0) := by omega
    have E : Hid (szAns (n + K) left = -1) := szAns_no (by omega)
    go_enter Try.func48, Try.ntmps48
    go_wp2
    go_ret
    exact ⟨by rw [E.out]; rfl, Below.refl _ _⟩

theorem infoNode : (Try.prog.info? 91).map (fun i => (i.zero, i.size, i.bytes)) = some (some (.agg #[.int .i64 0, .slice none 0 0, .slice none 0 0]), 3, 56) := by kernel_rfl

set_option maxRecDepth 100000 in
set_option maxHeartbeats 1000000 in
theorem toNodeS_own (a : Option Addr) (n cap : Nat) (d : List shNode.D) (w : World) (hr : Reads (.sl shNode) w [.slice a n cap] d) (hs : Sh.sz (.sl shNode) d ≤ 1048576) :
    Calls Try.prog 52 #[.slice a n cap] w fun e w' => ∃ (g : Nat) (F : List Nat), e = .returned (.slice (some ⟨g, 0, none⟩) n n) ∧ Own (.sl shNode) w' w.heap.size [.slice (some ⟨g, 0, none⟩) n n] d F ∧ F.Nodup ∧ Below w.heap.size w w' := by
  obtain ⟨i0, hi, hz0, hz1, hz2⟩ := info_parts infoNode
  obtain ⟨hl, hc1, hc2⟩ := reads_len hr
  have hs' : n + (List.map shNode.sz d).sum ≤ 1048576 := by rw [← hl]; exact hs
  have HS : Hid (n + (List.map shNode.sz d).sum ≤ 1048576) := hs'
  have hn : n ≤ 1048576 := by omega
  have HR : Hid (Reads (.sl shNode) w [.slice a n cap] d) := hr
  have HL : Hid (d.length = n) := hl
  clear hr hs hs' hl
  unfold maxLen at hc2
  go_enter Try.func52, Try.ntmps52
  go_wp2_with (at_make; refine wpList_make_full _ rfl _ _ 22 rfl w.heap.size 91 i0 (.agg #[.int .i64 0, .slice none 0 0, .slice none 0 0]) 3 Try.underlying22 hi hz0 hz1 _ _ _ _ n rfl rfl rfl rfl ?b2 ?b3 (Nat.le_refl _) ?_)
  case b2 => rw [hz2]; omega
  case b3 => unfold maxLen; omega
  intro w0 hown0 hgrow0
  have hb0 : Below w.heap.size w w0 := (Below.refl _ _).grown hgrow0 (Nat.le_refl _) (fun k h => by cases h)
  have hf0 : Fill shNode 91 w0 w.heap.size w.heap.size n 0 d := by
    rcases hown0.2 with ⟨h1, _⟩ | ⟨g', cap', cur, hv, hg, hh, h1, h2, h3, h4⟩
    · simp at h1
    · simp only [Value.slice.injEq, Option.some.injEq, Addr.mk.injEq, and_true, true_and] at hv
      obtain ⟨rfl, rfl⟩ := hv
      exact Fill.zero HL.out (by unfold maxLen; omega) (Nat.le_refl _) hh h3
  clear hown0 hgrow0
  have H0 : Hid (Fill shNode 91 w0 w.heap.size w.heap.size n 0 d ∧ Below w.heap.size w w0) := ⟨hf0, hb0⟩
  clear hf0 hb0
  go_wp2
  go_loopw [4] (fun i wr => ∃ k : Nat, k ≤ n ∧ i = .int .i64 k ∧ Hid (Fill shNode 91 wr w.heap.size w.heap.size n k d) ∧ Below w.heap.size w wr) (fun i _ => n - (intOf i).toNat)
  case atStart => exact ⟨0, by omega, rfl, H0.out.1, H0.out.2⟩
  case round =>
    obtain ⟨k, hk, rfl, hfill, hbel⟩ := hrel
    by_cases hlt : k < n
    · obtain ⟨b, off, c, x, rfl, hb, hx, hrx, hcell⟩ := reads_elem HR.out k hlt
      have hxs := sz_elem shNode d k x hx
      have q : Hid (Calls Try.prog 65 #[.agg c.toArray] wr fun e w' => ∃ cs' F, e = .returned (.agg cs'.toArray) ∧ Own shNode w' wr.heap.size cs' x F ∧ F.Nodup ∧ Below wr.heap.size wr w') := toNode_any c x wr (hrx.later hbel) (by have := HS.out; omega)
      have HX : Hid (shNode.at d k = some x) := hx
      obtain ⟨a1, n1, c1, a2, n2, c2, rfl, _, _⟩ := open_Node hrx
      obtain ⟨y0, ey0⟩ : ∃ y : Int, y = x.1 := ⟨_, rfl⟩
      have g0 : wr.cell? ⟨b, off + k * 3, none⟩ = some (.int .i64 y0) := by rw [ey0]; exact (hbel.cell (p := ⟨b, off + (k * 3 + 0), none⟩) hb).trans (hcell 0 (by decide))
      have g1 : wr.cell? ⟨b, off + k * 3 + 1, none⟩ = some (.slice a1 n1 c1) := by exact (hbel.cell (p := ⟨b, off + (k * 3 + 1), none⟩) hb).trans (hcell 1 (by decide))
      have g2 : wr.cell? ⟨b, off + k * 3 + 2, none⟩ = some (.slice a2 n2 c2) := by exact (hbel.cell (p := ⟨b, off + (k * 3 + 2), none⟩) hb).trans (hcell 2 (by decide))
      rw [← ey0] at q
      have HEY : Hid (y0 = x.1 ∧ True) := ⟨ey0, trivial⟩
      clear hcell hrx hx hxs ey0
      go_wp2_with fail
      refine q.out.mono ?_
      rintro e w1 ⟨cs', F, he, ho, hnd, hb1⟩
      obtain ⟨aq1, nq1, cq1, aq2, nq2, cq2, hcs, _⟩ := open_Node ho.reads
      rw [← HEY.out.1] at hcs
      subst hcs
      subst he
      have hbel1 := hbel.trans (hb1.mono hbel.size)
      have hfill1 := hfill.out.later hb1
      have hsz1 := hbel1.size
      obtain ⟨⟨u0, fc0⟩, ff0⟩ := hfill1.cell (k * 3) (by show _ < n * 3; omega)
      obtain ⟨⟨u1, fc1⟩, ff1⟩ := hfill1.cell (k * 3 + 1) (by show _ < n * 3; omega)
      obtain ⟨⟨u2, fc2⟩, ff2⟩ := hfill1.cell (k * 3 + 2) (by show _ < n * 3; omega)
      have HF : Hid (Own shNode w1 wr.heap.size [.int .i64 y0, .slice aq1 nq1 cq1, .slice aq2 nq2 cq2] x F ∧ F.Nodup ∧ Below wr.heap.size wr w1) := ⟨ho, hnd, hb1⟩
      clear ho hnd hb1 hfill1 q g0 g1 g2
      go_wp2_with fail
      obtain ⟨W, hW⟩ : ∃ W, W = (((w1).setCell ⟨w.heap.size, k * 3, none⟩ (.int .i64 y0)).setCell ⟨w.heap.size, k * 3 + 1, none⟩ (.slice aq1 nq1 cq1)).setCell ⟨w.heap.size, k * 3 + 2, none⟩ (.slice aq2 nq2 cq2) := ⟨_, rfl⟩
      have hstep : Fill shNode 91 W w.heap.size w.heap.size n (k + 1) d := by
        refine hfill.out.step hlt HX.out HF.out.2.2 HF.out.1 HF.out.2.1 hbel.size ?_ ?_
        · intro l hh
          rw [hW]
          have := box_set (j := k * 3 + 2) (.slice aq2 nq2 cq2) (box_set (j := k * 3 + 1) (.slice aq1 nq1 cq1) (box_set (j := k * 3) (.int .i64 y0) hh))
          rw [this]
          simp [setRow, size_Node]
        · intro i hi
          rw [hW]
          exact ((box_other _ hi).trans ((box_other _ hi).trans (box_other _ hi)))
      have hbW : Below w.heap.size w W := by rw [hW]; exact (((hbel1.setCell (by simp <;> omega) _).setCell (by simp <;> omega) _).setCell (by simp <;> omega) _)
      rw [← hW]
      have HH : Hid (Fill shNode 91 W w.heap.size w.heap.size n (k + 1) d ∧ Below w.heap.size w W) := ⟨hstep, hbW⟩
      clear hW hstep hbW fc0 ff0 fc1 ff1 fc2 ff2
      go_wp2
      go_roundw
      case rel => exact ⟨k + 1, by omega, by go_num, HH.out.1, HH.out.2⟩
      case measure => simp [intOf]; omega
    · have e : k = n := by omega
      subst e
      obtain ⟨F, hF1, hF2⟩ := hfill.out.full
      have HF : Hid (Own (.sl shNode) wr w.heap.size [.slice (some ⟨w.heap.size, 0, none⟩) k k] d F ∧ F.Nodup) := ⟨hF1, hF2⟩
      clear hF1 hF2
      go_wp2
      go_ret
      exact ⟨_, F, rfl, HF.out.1, HF.out.2, hbel⟩

set_option maxRecDepth 100000 in
set_option maxHeartbeats 1000000 in
theorem eqNode_any (cs1 cs2 : List Value) (d : shNode.D) (w : World) (hr : Reads shNode w cs1 d) (hq : Reads shNode w cs2 d) (hs : shNode.sz d ≤ 1048576) :
    Calls Try.prog 57 #[.agg cs1.toArray, .agg cs2.toArray] w fun e w' => e = .returned (.bool true) ∧ Below w.heap.size w w' := by
  obtain ⟨a1, n1, c1, a2, n2, c2, rfl, r1, r2⟩ := open_Node hr
  obtain ⟨p1, m1, k1, p2, m2, k2, rfl, t1, t2⟩ := open_Node hq
  obtain ⟨x0, e0⟩ : ∃ x : Int, x = d.1 := ⟨_, rfl⟩

  rw [sz_Node] at hs
  obtain rfl : n1 = m1 := (reads_len r1).1.symm.trans (reads_len t1).1
  have q1 : Hid (∀ w', Below w.heap.size w w' → Calls Try.prog 69 #[.slice a1 n1 c1, .slice p1 n1 k1] w' fun e w'' => e = .returned (.bool true) ∧ Below w'.heap.size w' w'') := fun w' h' => eqByteS_reads a1 p1 n1 c1 k1 _ w' (r1.later h') (t1.later h') (by omega)
  obtain rfl : n2 = m2 := (reads_len r2).1.symm.trans (reads_len t2).1
  have q2 : Hid (∀ w', Below w.heap.size w w' → Calls Try.prog 69 #[.slice a2 n2 c2, .slice p2 n2 k2] w' fun e w'' => e = .returned (.bool true) ∧ Below w'.heap.size w' w'') := fun w' h' => eqByteS_reads a2 p2 n2 c2 k2 _ w' (r2.later h') (t2.later h') (by omega)
  rw [← e0]
  have ne0 : (x0 != x0) = false := by simp
  clear hr hq hs r1 r2 t1 t2 e0
  obtain ⟨W0, hW0⟩ : ∃ W0, W0 = (w.alloc (.cells #[.int .i64 x0, .slice a1 n1 c1, .slice a2 n2 c2] 91)).alloc (.cells #[.int .i64 x0, .slice p1 n1 k1, .slice p2 n2 k2] 91) := ⟨_, rfl⟩
  have bW0 : Below w.heap.size w W0 := by rw [hW0]; exact ((Below.refl _ _).alloc (Nat.le_refl _) _).alloc (by simp) _
  have hA : W0.heap[w.heap.size]? = some (.cells #[.int .i64 x0, .slice a1 n1 c1, .slice a2 n2 c2] 91 (0, 0)) := by rw [hW0, heap_alloc_old _ _ (by simp)]; exact heap_alloc_new w _
  have hB : W0.heap[w.heap.size + 1]? = some (.cells #[.int .i64 x0, .slice p1 n1 k1, .slice p2 n2 k2] 91 (0, 0)) := by rw [hW0]; exact (by have := heap_alloc_new (w.alloc (.cells #[.int .i64 x0, .slice a1 n1 c1, .slice a2 n2 c2] 91)) (.cells #[.int .i64 x0, .slice p1 n1 k1, .slice p2 n2 k2] 91); simpa using this)
  have zW0 : W0.heap.size = w.heap.size + 1 + 1 := by rw [hW0]; simp
  have HW0 : Hid (W0 = _) := hW0
  have HAB : Hid (W0.heap[w.heap.size]? = some (.cells #[.int .i64 x0, .slice a1 n1 c1, .slice a2 n2 c2] 91 (0, 0)) ∧ W0.heap[w.heap.size + 1]? = some (.cells #[.int .i64 x0, .slice p1 n1 k1, .slice p2 n2 k2] 91 (0, 0))) := ⟨hA, hB⟩
  clear hW0 hA hB
  go_enter Try.func57, Try.ntmps57
  go_wp2_with fail
  rw [← HW0.out]
  refine (q1.out _ bW0).mono ?_
  rintro e w1 ⟨rfl, hb1⟩
  have b1 := bW0.trans (hb1.mono bW0.size)
  have z1 := hb1.size
  have iA : w1.heap[w.heap.size]? = some (.cells #[.int .i64 x0, .slice a1 n1 c1, .slice a2 n2 c2] 91 (0, 0)) := (hb1.block _ (by omega)).trans HAB.out.1
  have iB : w1.heap[w.heap.size + 1]? = some (.cells #[.int .i64 x0, .slice p1 n1 k1, .slice p2 n2 k2] 91 (0, 0)) := (hb1.block _ (by omega)).trans HAB.out.2
  have ya1_2 : w1.cell? ⟨w.heap.size, 2, none⟩ = some (.slice a2 n2 c2) := box_cell iA rfl
  have yb1_2 : w1.cell? ⟨w.heap.size + 1, 2, none⟩ = some (.slice p2 n2 k2) := box_cell iB rfl
  have I1 : Hid (w1.heap[w.heap.size]? = some (.cells #[.int .i64 x0, .slice a1 n1 c1, .slice a2 n2 c2] 91 (0, 0)) ∧ w1.heap[w.heap.size + 1]? = some (.cells #[.int .i64 x0, .slice p1 n1 k1, .slice p2 n2 k2] 91 (0, 0))) := ⟨iA, iB⟩
  clear iA iB hb1
  go_wp2_with fail
  refine (q2.out _ b1).mono ?_
  rintro e w2 ⟨rfl, hb2⟩
  have b2 := b1.trans (hb2.mono b1.size)
  have z2 := hb2.size
  have iA : w2.heap[w.heap.size]? = some (.cells #[.int .i64 x0, .slice a1 n1 c1, .slice a2 n2 c2] 91 (0, 0)) := (hb2.block _ (by omega)).trans I1.out.1
  have iB : w2.heap[w.heap.size + 1]? = some (.cells #[.int .i64 x0, .slice p1 n1 k1, .slice p2 n2 k2] 91 (0, 0)) := (hb2.block _ (by omega)).trans I1.out.2
  have I2 : Hid (w2.heap[w.heap.size]? = some (.cells #[.int .i64 x0, .slice a1 n1 c1, .slice a2 n2 c2] 91 (0, 0)) ∧ w2.heap[w.heap.size + 1]? = some (.cells #[.int .i64 x0, .slice p1 n1 k1, .slice p2 n2 k2] 91 (0, 0))) := ⟨iA, iB⟩
  clear iA iB hb2
  go_wp2
  go_ret
  exact ⟨rfl, b2⟩

set_option maxRecDepth 100000 in
set_option maxHeartbeats 1000000 in
theorem eqNodeS_reads (a b : Option Addr) (n ca cb : Nat) (d : List shNode.D) (w : World) (hr1 : Reads (.sl shNode) w [.slice a n ca] d) (hr2 : Reads (.sl shNode) w [.slice b n cb] d) (hs : Sh.sz (.sl shNode) d ≤ 1048576) :
    Calls Try.prog 37 #[.slice a n ca, .slice b n cb] w fun e w' => e = .returned (.bool true) ∧ Below w.heap.size w w' := by
  obtain ⟨hl, hc1, hc2⟩ := reads_len hr1
  have hs' : n + (List.map shNode.sz d).sum ≤ 1048576 := by rw [← hl]; exact hs
  have HS : Hid (n + (List.map shNode.sz d).sum ≤ 1048576) := hs'
  have hn : n ≤ 1048576 := by omega
  have HR : Hid (Reads (.sl shNode) w [.slice a n ca] d ∧ Reads (.sl shNode) w [.slice b n cb] d) := ⟨hr1, hr2⟩
  clear hr1 hr2 hs hs' hl hc1 hc2
  have hnn : ((n : Int) != (n : Int)) = false := by simp
  go_enter Try.func37, Try.ntmps37
  go_wp2
  go_loopw [5] (fun i wr => ∃ k : Nat, k ≤ n ∧ i = .int .i64 k ∧ Below w.heap.size w wr) (fun i _ => n - (intOf i).toNat)
  case atStart => exact ⟨0, Nat.zero_le _, rfl, Below.refl _ _⟩
  case round =>
    obtain ⟨k, hk, rfl, hbel⟩ := hrel
    by_cases hlt : k < n
    · obtain ⟨b1, o1, c, x, rfl, hb1, hx, hrx, hcell⟩ := reads_elem HR.out.1 k hlt
      obtain ⟨b2, o2, c', x', rfl, hb2, hx', hrx', hcell'⟩ := reads_elem HR.out.2 k hlt
      obtain rfl : x = x' := Option.some.inj (hx.symm.trans hx')
      have hxs := sz_elem shNode d k x hx
      have q : Hid (∀ w', Below wr.heap.size wr w' → Calls Try.prog 57 #[.agg c.toArray, .agg c'.toArray] w' fun e w'' => e = .returned (.bool true) ∧ Below w'.heap.size w' w'') := fun w' h' => eqNode_any c c' x w' ((hrx.later hbel).later h') ((hrx'.later hbel).later h') (by have := HS.out; omega)
      obtain ⟨a1, n1, c1, a2, n2, c2, rfl, s1, s2⟩ := open_Node hrx
      obtain ⟨p1, m1, k1, p2, m2, k2, rfl, t1, t2⟩ := open_Node hrx'
      obtain rfl : n1 = m1 := (reads_len s1).1.symm.trans (reads_len t1).1
      clear s1 t1
      obtain rfl : n2 = m2 := (reads_len s2).1.symm.trans (reads_len t2).1
      clear s2 t2
      obtain ⟨y0, ey0⟩ : ∃ y : Int, y = x.1 := ⟨_, rfl⟩
      have g0 : wr.cell? ⟨b1, o1 + k * 3, none⟩ = some (.int .i64 y0) := by rw [ey0]; exact (hbel.cell (p := ⟨b1, o1 + (k * 3 + 0), none⟩) hb1).trans (hcell 0 (by decide))
      have g1 : wr.cell? ⟨b1, o1 + k * 3 + 1, none⟩ = some (.slice a1 n1 c1) := by exact (hbel.cell (p := ⟨b1, o1 + (k * 3 + 1), none⟩) hb1).trans (hcell 1 (by decide))
      have g2 : wr.cell? ⟨b1, o1 + k * 3 + 2, none⟩ = some (.slice a2 n2 c2) := by exact (hbel.cell (p := ⟨b1, o1 + (k * 3 + 2), none⟩) hb1).trans (hcell 2 (by decide))
      have f0 : wr.cell? ⟨b2, o2 + k * 3, none⟩ = some (.int .i64 y0) := by rw [ey0]; exact (hbel.cell (p := ⟨b2, o2 + (k * 3 + 0), none⟩) hb2).trans (hcell' 0 (by decide))
      have f1 : wr.cell? ⟨b2, o2 + k * 3 + 1, none⟩ = some (.slice p1 n1 k1) := by exact (hbel.cell (p := ⟨b2, o2 + (k * 3 + 1), none⟩) hb2).trans (hcell' 1 (by decide))
      have f2 : wr.cell? ⟨b2, o2 + k * 3 + 2, none⟩ = some (.slice p2 n2 k2) := by exact (hbel.cell (p := ⟨b2, o2 + (k * 3 + 2), none⟩) hb2).trans (hcell' 2 (by decide))
      rw [← ey0] at q
      have hbs := hbel.size
      have hlt' : (k : Int) < (n : Int) := by omega
      have hbb : Below wr.heap.size wr wr := Below.refl _ _
      clear hcell hrx hx hxs hcell' hrx' hx' ey0
      go_wp2_with fail
      go_region_held (fun w' => w'.cell? ⟨b1, o1 + k * 3, none⟩ = some (.int .i64 y0) ∧ w'.cell? ⟨b1, o1 + k * 3 + 1, none⟩ = some (.slice a1 n1 c1) ∧ w'.cell? ⟨b1, o1 + k * 3 + 2, none⟩ = some (.slice a2 n2 c2) ∧ w'.cell? ⟨b2, o2 + k * 3, none⟩ = some (.int .i64 y0) ∧ w'.cell? ⟨b2, o2 + k * 3 + 1, none⟩ = some (.slice p1 n1 k1) ∧ w'.cell? ⟨b2, o2 + k * 3 + 2, none⟩ = some (.slice p2 n2 k2))
        (first | go_keep | (refine ⟨(hb7.cell (p := ⟨b1, o1 + k * 3, none⟩) (by simp; omega)).trans ?_, (hb7.cell (p := ⟨b1, o1 + k * 3 + 1, none⟩) (by simp; omega)).trans ?_, (hb7.cell (p := ⟨b1, o1 + k * 3 + 2, none⟩) (by simp; omega)).trans ?_, (hb7.cell (p := ⟨b2, o2 + k * 3, none⟩) (by simp; omega)).trans ?_, (hb7.cell (p := ⟨b2, o2 + k * 3 + 1, none⟩) (by simp; omega)).trans ?_, (hb7.cell (p := ⟨b2, o2 + k * 3 + 2, none⟩) (by simp; omega)).trans ?_⟩ <;> assumption))
        ((go_at_call 57; refine (q.out _ (Below.drew hbb)).mono ?_; rintro e w7 ⟨rfl, hb7⟩))
      have hbel7 : Below w.heap.size w w7 := hbel.trans (((Below.drew hbb).trans (hb7.mono (by simp))).mono hbel.size)
      clear hb7
      go_wp2
      go_roundw
      case rel => exact ⟨k + 1, by omega, by go_num, hbel7⟩
      case measure => simp [intOf]; omega
    · go_wp2
      go_ret
      exact ⟨rfl, hbel⟩

end Go.Proofs.Ytdmgknmlgipnpaa
