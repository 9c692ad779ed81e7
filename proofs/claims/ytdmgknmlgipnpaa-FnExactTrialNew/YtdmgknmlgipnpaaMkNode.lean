/-
  The marks of the type Node. By program (mkgen.py).
-/
import Derived.Test.YtdmgknmlgipnpaaTyNode
import Derived.Test.YtdmgknmlgipnpaaMkB
namespace Go.Proofs.Ytdmgknmlgipnpaa
open Go.RowKit
set_option linter.unusedVariables false

theorem openO_Node {w : World} {B : Nat} {cs : List Value} {d : shNode.D} {F : List Nat} (h : Own shNode w B cs d F) :
    ∃ a1 n1 c1 F1 a2 n2 c2 F2, cs = [.int .i64 (d.1), .slice a1 n1 c1, .slice a2 n2 c2] ∧ F = F1 ++ (F2 ++ ([])) ∧ Own (.sl .u8) w B [.slice a1 n1 c1] d.2.1 F1 ∧ Own (.sl .u8) w B [.slice a2 n2 c2] d.2.2.1 F2 := by
  obtain ⟨_, _, G0, _, rfl, rfl, h0, _, _, G1, _, rfl, rfl, h1, _, _, G2, _, rfl, rfl, h2, hE⟩ := h
  obtain ⟨rfl, rfl⟩ := h0
  obtain ⟨rfl, rfl⟩ := hE
  have g1 := Own.reads (s := (.sl .u8)) h1
  obtain ⟨a1, c1, e1, _⟩ := g1
  subst e1
  have g2 := Own.reads (s := (.sl .u8)) h2
  obtain ⟨a2, c2, e2, _⟩ := g2
  subst e2
  exact ⟨a1, _, c1, G1, a2, _, c2, G2, rfl, by simp, h1, h2⟩

theorem cnt_Node (d : shNode.D) : shNode.cnt d = 1 + Sh.cnt (.sl .u8) d.2.1 + Sh.cnt (.sl .u8) d.2.2.1 := by
  show 1 + (Sh.cnt (.sl .u8) d.2.1 + (Sh.cnt (.sl .u8) d.2.2.1 + (0))) = _
  omega

set_option maxRecDepth 100000 in
set_option maxHeartbeats 2000000 in
theorem markNodeS_own (a : Option Addr) (n cap B k : Nat) (d : List shNode.D) (F : List Nat) (w : World) (ho : Own (.sl shNode) w B [.slice a n cap] d F) (hnd : F.Nodup) (hk0 : 1 ≤ k) (hk : k + Sh.cnt (.sl shNode) d ≤ 1000000000000) :
    Calls Try.prog 41 #[.slice a n cap, .int .i64 k] w fun e w' => e = .returned (.int .i64 ((k + Sh.cnt (.sl shNode) d : Nat) : Int)) ∧ Own (.sl shNode) w' B [.slice a n cap] (Sh.mk (.sl shNode) d k) F ∧ Touch w w' F := by
  obtain ⟨hl, hm, hg⟩ := own_len ho
  obtain ⟨C, hC⟩ : ∃ C, C = Sh.cnt (.sl shNode) d := ⟨_, rfl⟩
  rw [← hC] at hk ⊢
  have HO : Hid (Own (.sl shNode) w B [.slice a n cap] d F ∧ F.Nodup) := ⟨ho, hnd⟩
  have HL : Hid (d.length = n ∧ C = Sh.cnt (.sl shNode) d) := ⟨hl, hC⟩
  clear ho hnd hl hC
  unfold maxLen at hm
  go_enter Try.func41, Try.ntmps41
  go_wp2
  go_loopw [1, 5] (fun m i wr => ∃ j kk : Nat, j ≤ n ∧ m = .int .i64 (kk : Int) ∧ i = .int .i64 j ∧ Hid (kk = k + cntTo shNode d j) ∧ 1 ≤ kk ∧ Hid (Own (.sl shNode) wr B [.slice a n cap] (mkTo shNode d k j) F) ∧ Touch w wr F) (fun _ i _ => n - (intOf i).toNat)
  case atStart => exact ⟨0, k, Nat.zero_le _, rfl, rfl, by show k = _; rw [cntTo_zero]; rfl, hk0, by show Own _ _ _ _ _ _; rw [mkTo_zero]; exact HO.out.1, Touch.refl _ _⟩
  case round =>
    obtain ⟨j, kk, hj, rfl, rfl, hkk, hkk1, ho, ht⟩ := hrel
    by_cases hlt : j < n
    · obtain ⟨g, rfl⟩ := hg.resolve_left (by omega)
      obtain ⟨t, cur, c, x, f, hh, hx, hoe, hnf, hgf, hfF, hgF, hBg, hcur, hclose⟩ := own_elem ho.out HO.out.2 j hlt
      have hxd : shNode.at d j = some x := by
        have h1 : j < d.length := by rw [HL.out.1]; exact hlt
        have h2 : shNode.at d j = some d[j] := List.getElem?_eq_getElem h1
        have h3 := mkTo_at shNode d k j _ h2
        rw [h2, ← h3]; exact hx
      have hsucc := cntTo_succ shNode d j x hxd
      have hle := cntTo_le shNode d (j + 1)
      have hms := mkTo_set shNode d k j x hxd
      rw [← hkk.out] at hms
      rw [cnt_Node] at hsucc
      obtain ⟨a1, n1, c1, F1, a2, n2, c2, F2, rfl, rfl, o1, o2⟩ := openO_Node hoe
      obtain ⟨C1, hC1⟩ : ∃ C, C = Sh.cnt (.sl .u8) x.2.1 := ⟨_, rfl⟩
      obtain ⟨C2, hC2⟩ : ∃ C, C = Sh.cnt (.sl .u8) x.2.2.1 := ⟨_, rfl⟩
      rw [← hC1, ← hC2] at hsucc
      have hkn : kk + (1 + C1 + C2) ≤ 1000000000000 := by have h1 := hkk.out; have h2 := HL.out.2; rw [← h2] at hle; omega
      have HK : Hid (kk + (1 + C1 + C2) = k + cntTo shNode d (j + 1)) := by show _ = _; rw [hsucc, hkk.out]; omega
      have hq0 : cur[j * 3]? = some (.int .i64 (x.1)) := hcur 0 (by decide)
      have hq1 : cur[j * 3 + 1]? = some (.slice a1 n1 c1) := hcur 1 (by decide)
      have hq2 : cur[j * 3 + 2]? = some (.slice a2 n2 c2) := hcur 2 (by decide)
      have HQ : Hid (cur[j * 3]? = some (.int .i64 (x.1)) ∧ cur[j * 3 + 1]? = some (.slice a1 n1 c1) ∧ cur[j * 3 + 2]? = some (.slice a2 n2 c2) ∧ True) := ⟨hq0, hq1, hq2, trivial⟩
      obtain ⟨k1, hk1⟩ : ∃ k' : Nat, k' = kk + 1 + C1 := ⟨_, rfl⟩
      have qc1 : Hid (∀ w' : World, Own (.sl .u8) w' B [.slice a1 n1 c1] x.2.1 F1 → Calls Try.prog 60 #[.slice a1 n1 c1, .int .i64 ((kk : Int) + 1)] w' fun e w'' => e = .returned (.int .i64 (k1 : Int)) ∧ Own (.sl .u8) w'' B [.slice a1 n1 c1] (Sh.mk (.sl .u8) x.2.1 (kk + 1)) F1 ∧ Touch w' w'' F1) := fun w' h' => by
        have e : (((kk + 1 : Nat)) : Int) = (kk : Int) + 1 := by omega
        rw [← e, hk1, hC1]
        exact markByteS_own a1 n1 c1 B (kk + 1) _ F1 w' h' ((List.nodup_append.1 hnf).1) (by rw [← hC1]; omega)
      have hkb1 : k1 = kk + 1 + C1 := hk1
      have HK1 : Hid (k1 = kk + 1 + C1) := hk1
      have HC1 : Hid (C1 = Sh.cnt (.sl .u8) x.2.1) := hC1
      obtain ⟨k2, hk2⟩ : ∃ k' : Nat, k' = (k1) + C2 := ⟨_, rfl⟩
      have qc2 : Hid (∀ w' : World, Own (.sl .u8) w' B [.slice a2 n2 c2] x.2.2.1 F2 → Calls Try.prog 60 #[.slice a2 n2 c2, .int .i64 ((k1 : Int))] w' fun e w'' => e = .returned (.int .i64 (k2 : Int)) ∧ Own (.sl .u8) w'' B [.slice a2 n2 c2] (Sh.mk (.sl .u8) x.2.2.1 ((k1))) F2 ∧ Touch w' w'' F2) := fun w' h' => by
        have e : ((((k1) : Nat)) : Int) = (k1 : Int) := by omega
        rw [← e, hk2, hC2]
        exact markByteS_own a2 n2 c2 B ((k1)) _ F2 w' h' ((List.nodup_append.1 (List.nodup_append.1 hnf).2.1).1) (by rw [← hC2]; omega)
      have hkb2 : k2 = (k1) + C2 := hk2
      have HK2 : Hid (k2 = (k1) + C2) := hk2
      have HC2 : Hid (C2 = Sh.cnt (.sl .u8) x.2.2.1) := hC2
      have HGN : Hid (g ∉ F1 ∧ g ∉ F2 ∧ True) := ⟨fun h => hgf (List.mem_append_left _ h), fun h => hgf (List.mem_append_right _ (List.mem_append_left _ h)), trivial⟩
      have HMS : Hid (List.set (mkTo shNode d k j) j (shNode.mk x kk) = mkTo shNode d k (j + 1)) := hms
      have HCL : Hid (∀ (w2 : World) (c' : List Value) (x' : shNode.D), Own shNode w2 B c' x' (F1 ++ (F2 ++ ([]))) → w2.heap[g]? = some (.cells (setRow cur.toList (j * shNode.size) c').toArray t (0, 0)) → (∀ y ∈ F, y ≠ g → y ∉ F1 ++ (F2 ++ ([])) → w2.heap[y]? = wr.heap[y]?) → Own (.sl shNode) w2 B [.slice (some ⟨g, 0, none⟩) n cap] (List.set (mkTo shNode d k j) j x') F) := hclose
      obtain ⟨uwr_0, ywr_0⟩ : ∃ u, wr.cell? ⟨g, j * 3, none⟩ = some u := ⟨_, box_cell hh (by exact HQ.out.1)⟩
      have yfwr_0 : wr.frozen? ⟨g, j * 3, none⟩ = false := box_frozen hh
      have ywr_1 : wr.cell? ⟨g, j * 3 + 1, none⟩ = some (.slice a1 n1 c1) := box_cell hh (by exact HQ.out.2.1)
      have ywr_2 : wr.cell? ⟨g, j * 3 + 2, none⟩ = some (.slice a2 n2 c2) := box_cell hh (by exact HQ.out.2.2.1)
      clear hms hclose hcur hsucc hle hx hxd hoe hgf hq0 hq1 hq2 hk1 hkb1 hC1 hk2 hkb2 hC2
      go_wp2_with fail
      obtain ⟨W1, hW1⟩ : ∃ W, W = (wr).setCell ⟨g, j * 3, none⟩ (.int .i64 ((kk : Int))) := ⟨_, rfl⟩
      have hhW1 : W1.heap[g]? = some (.cells ((cur).setIfInBounds (j * 3) (.int .i64 ((kk : Int)))) t (0, 0)) := by rw [hW1]; exact box_set (j := j * 3) (.int .i64 ((kk : Int))) (hh)
      have pW1_1 : Own (.sl .u8) W1 B [.slice a1 n1 c1] (x.2.1) F1 := by rw [hW1]; exact o1.keep fun y hy => ((box_other _ (fun e => HGN.out.1 (by rw [← e]; exact hy))).trans rfl)
      have pW1_2 : Own (.sl .u8) W1 B [.slice a2 n2 c2] (x.2.2.1) F2 := by rw [hW1]; exact o2.keep fun y hy => ((box_other _ (fun e => HGN.out.2.1 (by rw [← e]; exact hy))).trans rfl)
      have tW1 : Touch w W1 F := by rw [hW1]; exact (ht.trans (Touch.set _ g _ _ hgF))
      have rW1 : Hid (∀ y ∈ F, y ≠ g → y ∉ F1 ++ (F2 ++ ([])) → W1.heap[y]? = wr.heap[y]?) := fun y hy hyg hyf => by rw [hW1]; exact ((box_other _ hyg).trans rfl)
      have zW1 : wr.heap.size ≤ W1.heap.size := by rw [hW1]; simp
      rw [← hW1]
      refine (qc1.out _ pW1_1).mono ?_
      rintro e w1 ⟨rfl, om1, tq1⟩
      have tb1 : Touch W1 w1 F := tq1.mono fun y hy => hfF y (List.mem_append_left _ hy)
      have hhw1 : w1.heap[g]? = some (.cells ((cur).setIfInBounds (j * 3) (.int .i64 ((kk : Int)))) t (0, 0)) := (tq1.block g (lt_heap hhW1) HGN.out.1).trans hhW1
      have pw1_1 := om1
      have pw1_2 := tq1.own pW1_2 (fun y hy hyq => (List.nodup_append.1 hnf).2.2 y hyq y (List.mem_append_left _ hy) rfl)
      have rw1 : Hid (∀ y ∈ F, y ≠ g → y ∉ F1 ++ (F2 ++ ([])) → w1.heap[y]? = wr.heap[y]?) := fun y hy hyg hyf => (tq1.block y (Nat.lt_of_lt_of_le (ho.out.lt y hy).2 zW1) (fun h => hyf (List.mem_append_left _ h))).trans ((rW1.out y hy hyg hyf))
      have zw1 : wr.heap.size ≤ w1.heap.size := Nat.le_trans zW1 tq1.size
      have tw1 : Touch w w1 F := tW1.trans tb1
      obtain ⟨uw1_0, yw1_0⟩ : ∃ u, w1.cell? ⟨g, j * 3, none⟩ = some u := ⟨_, box_cell hhw1 (by rw [Array.getElem?_setIfInBounds_self_of_lt (by first | exact (Array.getElem?_eq_some_iff.1 HQ.out.1).1 | (simp only [Array.size_setIfInBounds]; exact (Array.getElem?_eq_some_iff.1 HQ.out.1).1))])⟩
      have yfw1_0 : w1.frozen? ⟨g, j * 3, none⟩ = false := box_frozen hhw1
      have yw1_1 : w1.cell? ⟨g, j * 3 + 1, none⟩ = some (.slice a1 n1 c1) := box_cell hhw1 (by rw [Array.getElem?_setIfInBounds_ne (by omega)]; exact HQ.out.2.1)
      have yw1_2 : w1.cell? ⟨g, j * 3 + 2, none⟩ = some (.slice a2 n2 c2) := box_cell hhw1 (by rw [Array.getElem?_setIfInBounds_ne (by omega)]; exact HQ.out.2.2.1)
      go_wp2_with fail
      refine (qc2.out _ pw1_2).mono ?_
      rintro e w2 ⟨rfl, om2, tq2⟩
      have tb2 : Touch w1 w2 F := tq2.mono fun y hy => hfF y (List.mem_append_right _ (List.mem_append_left _ hy))
      have hhw2 : w2.heap[g]? = some (.cells ((cur).setIfInBounds (j * 3) (.int .i64 ((kk : Int)))) t (0, 0)) := (tq2.block g (lt_heap hhw1) HGN.out.2.1).trans hhw1
      have pw2_1 := tq2.own pw1_1 (fun y hy hyq => (List.nodup_append.1 hnf).2.2 y hy y (List.mem_append_left _ hyq) rfl)
      have pw2_2 := om2
      have rw2 : Hid (∀ y ∈ F, y ≠ g → y ∉ F1 ++ (F2 ++ ([])) → w2.heap[y]? = wr.heap[y]?) := fun y hy hyg hyf => (tq2.block y (Nat.lt_of_lt_of_le (ho.out.lt y hy).2 zw1) (fun h => hyf (List.mem_append_right _ (List.mem_append_left _ h)))).trans ((rw1.out y hy hyg hyf))
      have zw2 : wr.heap.size ≤ w2.heap.size := Nat.le_trans zw1 tq2.size
      have tw2 : Touch w w2 F := tw1.trans tb2
      obtain ⟨uw2_0, yw2_0⟩ : ∃ u, w2.cell? ⟨g, j * 3, none⟩ = some u := ⟨_, box_cell hhw2 (by rw [Array.getElem?_setIfInBounds_self_of_lt (by first | exact (Array.getElem?_eq_some_iff.1 HQ.out.1).1 | (simp only [Array.size_setIfInBounds]; exact (Array.getElem?_eq_some_iff.1 HQ.out.1).1))])⟩
      have yfw2_0 : w2.frozen? ⟨g, j * 3, none⟩ = false := box_frozen hhw2
      have yw2_1 : w2.cell? ⟨g, j * 3 + 1, none⟩ = some (.slice a1 n1 c1) := box_cell hhw2 (by rw [Array.getElem?_setIfInBounds_ne (by omega)]; exact HQ.out.2.1)
      have yw2_2 : w2.cell? ⟨g, j * 3 + 2, none⟩ = some (.slice a2 n2 c2) := box_cell hhw2 (by rw [Array.getElem?_setIfInBounds_ne (by omega)]; exact HQ.out.2.2.1)
      have hfin : Own (.sl shNode) (w2) B [.slice (some ⟨g, 0, none⟩) n cap] (mkTo shNode d k (j + 1)) F := by
        rw [← HMS.out]
        have v1 : Own (.sl .u8) (w2) B [.slice a1 n1 c1] (Sh.mk (.sl .u8) x.2.1 (kk + 1)) F1 := by
          have hv := pw2_1
          exact hv
        have v2 : Own (.sl .u8) (w2) B [.slice a2 n2 c2] (Sh.mk (.sl .u8) x.2.2.1 (kk + 1 + Sh.cnt (.sl .u8) x.2.1)) F2 := by
          have hv := pw2_2
          rw [HK1.out, HC1.out] at hv
          exact hv
        have l0 : Value.int .i64 ((kk : Int)) = Value.int .i64 (((kk : Nat)) : Int) := by have f1 := HK1.out; have g1 := HC1.out; have f2 := HK2.out; have g2 := HC2.out; congr 1 <;> omega
        refine HCL.out _ [.int .i64 ((kk : Int)), .slice a1 n1 c1, .slice a2 n2 c2] _ ?_ ?_ ?_
        · have hb : Own shNode (w2) B [.int .i64 (((kk : Nat)) : Int), .slice a1 n1 c1, .slice a2 n2 c2] (shNode.mk x kk) (F1 ++ (F2 ++ ([]))) := own_Node (w := w2) (B := B) (d := shNode.mk x kk) v1 v2
          rw [l0]
          exact hb
        · rw [show (w2).heap[g]? = some (.cells ((cur).setIfInBounds (j * 3) (.int .i64 ((kk : Int)))) t (0, 0)) from hhw2]
          congr 2
          apply Array.ext'
          simp only [Array.toList_setIfInBounds]
          show _ = setRow cur.toList (j * 3) [.int .i64 ((kk : Int)), .slice a1 n1 c1, .slice a2 n2 c2]
          rw [setRow]
          rw [setRow_skip (by rw [List.getElem?_set_ne (by omega)]; exact (Array.getElem?_toList).trans HQ.out.2.1)]
          rw [setRow_skip (by rw [List.getElem?_set_ne (by omega)]; exact (Array.getElem?_toList).trans HQ.out.2.2.1)]
          all_goals (first | rfl | (rw [setRow]; all_goals rfl))
        · intro y hy hyg hyf; exact (rw2.out y hy hyg hyf)
      have HFIN : Hid (Own (.sl shNode) (w2) B [.slice (some ⟨g, 0, none⟩) n cap] (mkTo shNode d k (j + 1)) F ∧ Touch w (w2) F) := ⟨hfin, tw2⟩
      clear hfin tw2 hhw2 pw2_1 pw2_2
      go_wp2
      go_roundw
      case rel => exact ⟨j + 1, kk + (1 + C1 + C2), by omega, by have f1 := HK1.out; have f2 := HK2.out; congr 1 <;> omega, by go_num, HK.out, by omega, HFIN.out.1, HFIN.out.2⟩
      case measure => simp [intOf]; omega
    · have e : j = n := by omega
      subst e
      have hfin : Own (.sl shNode) wr B [.slice a j cap] (Sh.mk (.sl shNode) d k) F := (congrArg (fun z => Own (.sl shNode) wr B [.slice a j cap] z F) (mkTo_all shNode d k j (Nat.le_of_eq HL.out.1))).mp ho.out
      have hke : kk = k + C := by rw [hkk.out, HL.out.2, cntTo_all shNode d j (Nat.le_of_eq HL.out.1)]
      have HH : Hid (Own (.sl shNode) wr B [.slice a j cap] (Sh.mk (.sl shNode) d k) F ∧ kk = k + C) := ⟨hfin, hke⟩
      clear hfin ho hke hkk
      go_wp2
      go_ret
      exact ⟨by rw [← HH.out.2]; rfl, HH.out.1, ht⟩

set_option maxRecDepth 100000 in
set_option maxHeartbeats 2000000 in
theorem heldNodeS_own (a : Option Addr) (n cap B k : Nat) (d : List shNode.D) (F : List Nat) (w : World) (ho : Own (.sl shNode) w B [.slice a n cap] (Sh.mk (.sl shNode) d k) F) (hnd : F.Nodup) (hk0 : 1 ≤ k) (hk : k + Sh.cnt (.sl shNode) d ≤ 1000000000000) :
    Calls Try.prog 45 #[.slice a n cap, .int .i64 k] w fun e w' => e = .returned (.int .i64 ((k + Sh.cnt (.sl shNode) d : Nat) : Int)) ∧ Below w.heap.size w w' := by
  obtain ⟨hl0, hm, hg⟩ := own_len ho
  have hl : d.length = n := by rw [← hl0]; exact (mkRow_length _ _ _ _).symm
  obtain ⟨C, hC⟩ : ∃ C, C = Sh.cnt (.sl shNode) d := ⟨_, rfl⟩
  rw [← hC] at hk ⊢
  have HO : Hid (Own (.sl shNode) w B [.slice a n cap] (Sh.mk (.sl shNode) d k) F ∧ F.Nodup) := ⟨ho, hnd⟩
  have HL : Hid (d.length = n ∧ C = Sh.cnt (.sl shNode) d) := ⟨hl, hC⟩
  clear ho hnd hl hl0 hC
  unfold maxLen at hm
  go_enter Try.func45, Try.ntmps45
  go_wp2
  go_loopw [1, 5] (fun m i wr => ∃ j kk : Nat, j ≤ n ∧ m = .int .i64 (kk : Int) ∧ i = .int .i64 j ∧ Hid (kk = k + cntTo shNode d j) ∧ 1 ≤ kk ∧ Below w.heap.size w wr) (fun _ i _ => n - (intOf i).toNat)
  case atStart => exact ⟨0, k, Nat.zero_le _, rfl, rfl, by show k = _; rw [cntTo_zero]; rfl, hk0, Below.refl _ _⟩
  case round =>
    obtain ⟨j, kk, hj, rfl, rfl, hkk, hkk1, hbel⟩ := hrel
    by_cases hlt : j < n
    · obtain ⟨g, rfl⟩ := hg.resolve_left (by omega)
      obtain ⟨t, cur, c, x', f, hh, hx', hoe, hnf, hgf, hfF, hgF, hBg, hcur, -⟩ := own_elem HO.out.1 HO.out.2 j hlt
      have hjd : j < d.length := by rw [HL.out.1]; exact hlt
      obtain ⟨x, hxe⟩ : ∃ x, x = d[j] := ⟨_, rfl⟩
      have hxd : shNode.at d j = some x := by rw [hxe]; exact List.getElem?_eq_getElem hjd
      have hxm := mk_at shNode d k j x hxd
      rw [← hkk.out] at hxm
      obtain rfl : shNode.mk x kk = x' := Option.some.inj (hxm.symm.trans hx')
      have hsucc := cntTo_succ shNode d j x hxd
      have hle := cntTo_le shNode d (j + 1)
      rw [cnt_Node] at hsucc
      have hglt := lt_heap hh
      obtain ⟨a1, n1, c1, F1, a2, n2, c2, F2, rfl, rfl, o1, o2⟩ := openO_Node hoe
      obtain ⟨C1, hC1⟩ : ∃ C, C = Sh.cnt (.sl .u8) x.2.1 := ⟨_, rfl⟩
      obtain ⟨C2, hC2⟩ : ∃ C, C = Sh.cnt (.sl .u8) x.2.2.1 := ⟨_, rfl⟩
      rw [← hC1, ← hC2] at hsucc
      have hkn : kk + (1 + C1 + C2) ≤ 1000000000000 := by have h1 := hkk.out; have h2 := HL.out.2; rw [← h2] at hle; omega
      have HK : Hid (kk + (1 + C1 + C2) = k + cntTo shNode d (j + 1)) := by show _ = _; rw [hsucc, hkk.out]; omega
      have e0 : Value.int .i64 (((kk : Nat)) : Int) = Value.int .i64 ((kk : Int)) := by congr 1 <;> omega
      have cw0 : w.cell? ⟨g, j * 3, none⟩ = some (.int .i64 ((kk : Int))) := (box_cell hh (hcur 0 (by decide))).trans (congrArg some e0)
      have ne0 : (((kk : Int)) != ((kk : Int))) = false := by simp
      obtain ⟨k1, hk1⟩ : ∃ k' : Nat, k' = kk + 1 + C1 := ⟨_, rfl⟩
      have ou1 : Own (.sl .u8) w B [.slice a1 n1 c1] (Sh.mk (.sl .u8) x.2.1 (kk + 1)) F1 := by
        have hv : Own (.sl .u8) w B [.slice a1 n1 c1] (Sh.mk (.sl .u8) x.2.1 (kk + 1)) F1 := o1
        exact hv
      have qc1 : Hid (∀ w' : World, Below w.heap.size w w' → Calls Try.prog 61 #[.slice a1 n1 c1, .int .i64 ((kk : Int) + 1)] w' fun e w'' => e = .returned (.int .i64 (k1 : Int)) ∧ Below w'.heap.size w' w'') := fun w' h' => by
        have e : (((kk + 1 : Nat)) : Int) = (kk : Int) + 1 := by omega
        rw [← e, hk1, hC1]
        exact heldByteS_own a1 n1 c1 B (kk + 1) _ F1 w' (ou1.later h') (by rw [← hC1]; omega)
      have cw1 : w.cell? ⟨g, j * 3 + 1, none⟩ = some (.slice a1 n1 c1) := box_cell hh (hcur 1 (by decide))
      have nn1 : ¬ ((k1 : Int) < 0) := by omega
      have HK1 : Hid (k1 = kk + 1 + C1) := hk1
      obtain ⟨k2, hk2⟩ : ∃ k' : Nat, k' = (k1) + C2 := ⟨_, rfl⟩
      have ou2 : Own (.sl .u8) w B [.slice a2 n2 c2] (Sh.mk (.sl .u8) x.2.2.1 ((k1))) F2 := by
        have hv : Own (.sl .u8) w B [.slice a2 n2 c2] (Sh.mk (.sl .u8) x.2.2.1 (kk + 1 + Sh.cnt (.sl .u8) x.2.1)) F2 := o2
        rw [show kk + 1 + Sh.cnt (.sl .u8) x.2.1 = (k1) by have f1 := hk1; have g1 := hC1; omega] at hv
        exact hv
      have qc2 : Hid (∀ w' : World, Below w.heap.size w w' → Calls Try.prog 61 #[.slice a2 n2 c2, .int .i64 ((k1 : Int))] w' fun e w'' => e = .returned (.int .i64 (k2 : Int)) ∧ Below w'.heap.size w' w'') := fun w' h' => by
        have e : ((((k1) : Nat)) : Int) = (k1 : Int) := by omega
        rw [← e, hk2, hC2]
        exact heldByteS_own a2 n2 c2 B ((k1)) _ F2 w' (ou2.later h') (by rw [← hC2]; omega)
      have cw2 : w.cell? ⟨g, j * 3 + 2, none⟩ = some (.slice a2 n2 c2) := box_cell hh (hcur 2 (by decide))
      have nn2 : ¬ ((k2 : Int) < 0) := by omega
      have HK2 : Hid (k2 = (k1) + C2) := hk2
      clear hh hx' hoe hnf hgf hfF hgF hBg hcur hxd hxm hsucc hle hxe e0 hk1 hC1 o1 ou1 hk2 hC2 o2 ou2
      have HCW : Hid (w.cell? ⟨g, j * 3, none⟩ = some (.int .i64 ((kk : Int))) ∧ w.cell? ⟨g, j * 3 + 1, none⟩ = some (.slice a1 n1 c1) ∧ w.cell? ⟨g, j * 3 + 2, none⟩ = some (.slice a2 n2 c2) ∧ True) := ⟨cw0, cw1, cw2, trivial⟩
      clear cw0 cw1 cw2
      have ywr_0 : wr.cell? ⟨g, j * 3, none⟩ = _ := (hbel.cell (p := ⟨g, j * 3, none⟩) hglt).trans HCW.out.1
      have ywr_1 : wr.cell? ⟨g, j * 3 + 1, none⟩ = _ := (hbel.cell (p := ⟨g, j * 3 + 1, none⟩) hglt).trans HCW.out.2.1
      have ywr_2 : wr.cell? ⟨g, j * 3 + 2, none⟩ = _ := (hbel.cell (p := ⟨g, j * 3 + 2, none⟩) hglt).trans HCW.out.2.2.1
      go_wp2_with fail
      refine (qc1.out _ hbel).mono ?_
      rintro e w1 ⟨rfl, hb1⟩
      have b1 := hbel.trans (hb1.mono hbel.size)
      have yw1_2 : w1.cell? ⟨g, j * 3 + 2, none⟩ = _ := (b1.cell (p := ⟨g, j * 3 + 2, none⟩) hglt).trans HCW.out.2.2.1
      clear hb1
      go_wp2_with fail
      refine (qc2.out _ b1).mono ?_
      rintro e w2 ⟨rfl, hb2⟩
      have b2 := b1.trans (hb2.mono b1.size)
      clear hb2
      go_wp2
      go_roundw
      case rel => exact ⟨j + 1, kk + (1 + C1 + C2), by omega, by have f1 := HK1.out; have f2 := HK2.out; congr 1 <;> omega, by go_num, HK.out, by omega, b2⟩
      case measure => simp [intOf]; omega
    · have e : j = n := by omega
      subst e
      have hke : kk = k + C := by rw [hkk.out, HL.out.2, cntTo_all shNode d j (Nat.le_of_eq HL.out.1)]
      have HH : Hid (kk = k + C) := hke
      clear hke hkk
      go_wp2
      go_ret
      exact ⟨by rw [← HH.out]; rfl, hbel⟩

end Go.Proofs.Ytdmgknmlgipnpaa
