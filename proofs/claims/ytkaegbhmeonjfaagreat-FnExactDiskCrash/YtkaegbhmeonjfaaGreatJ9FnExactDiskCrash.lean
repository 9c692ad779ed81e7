/-
  Joined: MkNode, MkTurn, MkDisk, ReadS, ReadP, LnkP, LnkS.
-/
import Derived.Test.YtkaegbhmeonjfaaGreatJ2FnExactDiskCrash
import Derived.Test.YtkaegbhmeonjfaaGreatJ1FnExactDiskCrash
import Derived.Test.YtkaegbhmeonjfaaGreatJ8FnExactDiskCrash
import Derived.Test.YtkaegbhmeonjfaaGreatJ7FnExactDiskCrash
import Derived.Test.YtkaegbhmeonjfaaGreatJ3FnExactDiskCrash
import Derived.Lib.Bytealg
import Derived.Test.YtkaegbhmeonjfaaGreatShelfL
import Derived.Test.YtkaegbhmeonjfaaGreatShelf
/- MkNode: The marks of the type Node. By program (mkgen.py). -/
namespace Go.Proofs.YtkaegbhmeonjfaaGreat
open Go.RowKit
set_option linter.unusedVariables false
set_option maxRecDepth 100000

theorem openO_Node {w : World} {B : Nat} {cs : List Value} {d : shNode.D} {F : List Nat} (h : Own shNode w B cs d F) :
    ∃ a1 n1 c1 F1 a2 n2 c2 F2, cs = [.int .i64 (d.1), .slice a1 n1 c1, .slice a2 n2 c2] ∧ F = F1 ++ (F2 ++ ([])) ∧ Own (.sl .u8) w B [.slice a1 n1 c1] d.2.1 F1 ∧ Own (.sl .u8) w B [.slice a2 n2 c2] d.2.2.1 F2 := by
  obtain ⟨_, _, G0, _, rfl, rfl, h0, _, _, G1, _, rfl, rfl, h1, _, _, G2, _, rfl, rfl, h2, hE⟩ := h
  obtain ⟨rfl, rfl⟩ := h0
  obtain ⟨rfl, rfl⟩ := hE
  have g1 := Own.reads (s := (.sl .u8)) h1
  obtain ⟨a1, c1, e1, _⟩ := g1
  subst e1
  have g2 := Own.reads (s := (.sl .u8)) h2
  obtain ⟨a2, c2, e2, _⟩ := g2
  subst e2
  exact ⟨a1, _, c1, G1, a2, _, c2, G2, rfl, by simp, h1, h2⟩

theorem cnt_Node (d : shNode.D) : shNode.cnt d = 1 + Sh.cnt (.sl .u8) d.2.1 + Sh.cnt (.sl .u8) d.2.2.1 := by
  show 1 + (Sh.cnt (.sl .u8) d.2.1 + (Sh.cnt (.sl .u8) d.2.2.1 + (0))) = _
  omega

set_option maxRecDepth 100000 in
set_option maxHeartbeats 2000000 in
theorem markNodeS_own (a : Option Addr) (n cap B k : Nat) (d : List shNode.D) (F : List Nat) (w : World) (ho : Own (.sl shNode) w B [.slice a n cap] d F) (hnd : F.Nodup) (hk0 : 1 ≤ k) (hk : k + Sh.cnt (.sl shNode) d ≤ 1000000000000) :
    Calls Tryz.prog 48 #[.slice a n cap, .int .i64 k] w fun e w' => e = .returned (.int .i64 ((k + Sh.cnt (.sl shNode) d : Nat) : Int)) ∧ Own (.sl shNode) w' B [.slice a n cap] (Sh.mk (.sl shNode) d k) F ∧ Touch w w' F := by
  obtain ⟨hl, hm, hg⟩ := own_len ho
  obtain ⟨C, hC⟩ : ∃ C, C = Sh.cnt (.sl shNode) d := ⟨_, rfl⟩
  rw [← hC] at hk ⊢
  have HO : Hid (Own (.sl shNode) w B [.slice a n cap] d F ∧ F.Nodup) := ⟨ho, hnd⟩
  have HL : Hid (d.length = n ∧ C = Sh.cnt (.sl shNode) d) := ⟨hl, hC⟩
  clear ho hnd hl hC
  unfold maxLen at hm
  go_enter Tryz.func48, Tryz.ntmps48
  go_wp2
  go_loopw [1, 5] (fun m i wr => ∃ j kk : Nat, j ≤ n ∧ m = .int .i64 (kk : Int) ∧ i = .int .i64 j ∧ Hid (kk = k + cntTo shNode d j) ∧ 1 ≤ kk ∧ Hid (Own (.sl shNode) wr B [.slice a n cap] (mkTo shNode d k j) F) ∧ Touch w wr F) (fun _ i _ => n - (intOf i).toNat)
  case atStart => exact ⟨0, k, Nat.zero_le _, rfl, rfl, by show k = _; rw [cntTo_zero]; rfl, hk0, by show Own _ _ _ _ _ _; rw [mkTo_zero]; exact HO.out.1, Touch.refl _ _⟩
  case round =>
    obtain ⟨j, kk, hj, rfl, rfl, hkk, hkk1, ho, ht⟩ := hrel
    by_cases hlt : j < n
    · obtain ⟨g, rfl⟩ := hg.resolve_left (by omega)
      obtain ⟨t, cur, c, x, f, hh, hx, hoe, hnf, hgf, hfF, hgF, hBg, hcur, hclose⟩ := own_elem ho.out HO.out.2 j hlt
      have hxd : shNode.at d j = some x := by
        have h1 : j < d.length := by rw [HL.out.1]; exact hlt
        have h2 : shNode.at d j = some d[j] := List.getElem?_eq_getElem h1
        have h3 := mkTo_at shNode d k j _ h2
        rw [h2, ← h3]; exact hx
      have hsucc := cntTo_succ shNode d j x hxd
      have hle := cntTo_le shNode d (j + 1)
      have hms := mkTo_set shNode d k j x hxd
      rw [← hkk.out] at hms
      rw [cnt_Node] at hsucc
      obtain ⟨a1, n1, c1, F1, a2, n2, c2, F2, rfl, rfl, o1, o2⟩ := openO_Node hoe
      obtain ⟨C1, hC1⟩ : ∃ C, C = Sh.cnt (.sl .u8) x.2.1 := ⟨_, rfl⟩
      obtain ⟨C2, hC2⟩ : ∃ C, C = Sh.cnt (.sl .u8) x.2.2.1 := ⟨_, rfl⟩
      rw [← hC1, ← hC2] at hsucc
      have hkn : kk + (1 + C1 + C2) ≤ 1000000000000 := by have h1 := hkk.out; have h2 := HL.out.2; rw [← h2] at hle; omega
      have HK : Hid (kk + (1 + C1 + C2) = k + cntTo shNode d (j + 1)) := by show _ = _; rw [hsucc, hkk.out]; omega
      have hq0 : cur[j * 3]? = some (.int .i64 (x.1)) := hcur 0 (by decide)
      have hq1 : cur[j * 3 + 1]? = some (.slice a1 n1 c1) := hcur 1 (by decide)
      have hq2 : cur[j * 3 + 2]? = some (.slice a2 n2 c2) := hcur 2 (by decide)
      have HQ : Hid (cur[j * 3]? = some (.int .i64 (x.1)) ∧ cur[j * 3 + 1]? = some (.slice a1 n1 c1) ∧ cur[j * 3 + 2]? = some (.slice a2 n2 c2) ∧ True) := ⟨hq0, hq1, hq2, trivial⟩
      obtain ⟨k1, hk1⟩ : ∃ k' : Nat, k' = kk + 1 + C1 := ⟨_, rfl⟩
      have qc1 : Hid (∀ w' : World, Own (.sl .u8) w' B [.slice a1 n1 c1] x.2.1 F1 → Calls Tryz.prog 70 #[.slice a1 n1 c1, .int .i64 ((kk : Int) + 1)] w' fun e w'' => e = .returned (.int .i64 (k1 : Int)) ∧ Own (.sl .u8) w'' B [.slice a1 n1 c1] (Sh.mk (.sl .u8) x.2.1 (kk + 1)) F1 ∧ Touch w' w'' F1) := fun w' h' => by
        have e : (((kk + 1 : Nat)) : Int) = (kk : Int) + 1 := by omega
        rw [← e, hk1, hC1]
        exact markByteS_own a1 n1 c1 B (kk + 1) _ F1 w' h' ((List.nodup_append.1 hnf).1) (by rw [← hC1]; omega)
      have hkb1 : k1 = kk + 1 + C1 := hk1
      have HK1 : Hid (k1 = kk + 1 + C1) := hk1
      have HC1 : Hid (C1 = Sh.cnt (.sl .u8) x.2.1) := hC1
      obtain ⟨k2, hk2⟩ : ∃ k' : Nat, k' = (k1) + C2 := ⟨_, rfl⟩
      have qc2 : Hid (∀ w' : World, Own (.sl .u8) w' B [.slice a2 n2 c2] x.2.2.1 F2 → Calls Tryz.prog 70 #[.slice a2 n2 c2, .int .i64 ((k1 : Int))] w' fun e w'' => e = .returned (.int .i64 (k2 : Int)) ∧ Own (.sl .u8) w'' B [.slice a2 n2 c2] (Sh.mk (.sl .u8) x.2.2.1 ((k1))) F2 ∧ Touch w' w'' F2) := fun w' h' => by
        have e : ((((k1) : Nat)) : Int) = (k1 : Int) := by omega
        rw [← e, hk2, hC2]
        exact markByteS_own a2 n2 c2 B ((k1)) _ F2 w' h' ((List.nodup_append.1 (List.nodup_append.1 hnf).2.1).1) (by rw [← hC2]; omega)
      have hkb2 : k2 = (k1) + C2 := hk2
      have HK2 : Hid (k2 = (k1) + C2) := hk2
      have HC2 : Hid (C2 = Sh.cnt (.sl .u8) x.2.2.1) := hC2
      have HGN : Hid (g ∉ F1 ∧ g ∉ F2 ∧ True) := ⟨fun h => hgf (List.mem_append_left _ h), fun h => hgf (List.mem_append_right _ (List.mem_append_left _ h)), trivial⟩
      have HMS : Hid (List.set (mkTo shNode d k j) j (shNode.mk x kk) = mkTo shNode d k (j + 1)) := hms
      have HCL : Hid (∀ (w2 : World) (c' : List Value) (x' : shNode.D), Own shNode w2 B c' x' (F1 ++ (F2 ++ ([]))) → w2.heap[g]? = some (.cells (setRow cur.toList (j * shNode.size) c').toArray t (0, 0)) → (∀ y ∈ F, y ≠ g → y ∉ F1 ++ (F2 ++ ([])) → w2.heap[y]? = wr.heap[y]?) → Own (.sl shNode) w2 B [.slice (some ⟨g, 0, none⟩) n cap] (List.set (mkTo shNode d k j) j x') F) := hclose
      obtain ⟨uwr_0, ywr_0⟩ : ∃ u, wr.cell? ⟨g, j * 3, none⟩ = some u := ⟨_, box_cell hh (by exact HQ.out.1)⟩
      have yfwr_0 : wr.frozen? ⟨g, j * 3, none⟩ = false := box_frozen hh
      have ywr_1 : wr.cell? ⟨g, j * 3 + 1, none⟩ = some (.slice a1 n1 c1) := box_cell hh (by exact HQ.out.2.1)
      have ywr_2 : wr.cell? ⟨g, j * 3 + 2, none⟩ = some (.slice a2 n2 c2) := box_cell hh (by exact HQ.out.2.2.1)
      clear hms hclose hcur hsucc hle hx hxd hoe hgf hq0 hq1 hq2 hk1 hkb1 hC1 hk2 hkb2 hC2
      go_wp2_with fail
      obtain ⟨W1, hW1⟩ : ∃ W, W = (wr).setCell ⟨g, j * 3, none⟩ (.int .i64 ((kk : Int))) := ⟨_, rfl⟩
      have hhW1 : W1.heap[g]? = some (.cells ((cur).setIfInBounds (j * 3) (.int .i64 ((kk : Int)))) t (0, 0)) := by rw [hW1]; exact box_set (j := j * 3) (.int .i64 ((kk : Int))) (hh)
      have pW1_1 : Own (.sl .u8) W1 B [.slice a1 n1 c1] (x.2.1) F1 := by rw [hW1]; exact o1.keep fun y hy => ((box_other _ (fun e => HGN.out.1 (by rw [← e]; exact hy))).trans rfl)
      have pW1_2 : Own (.sl .u8) W1 B [.slice a2 n2 c2] (x.2.2.1) F2 := by rw [hW1]; exact o2.keep fun y hy => ((box_other _ (fun e => HGN.out.2.1 (by rw [← e]; exact hy))).trans rfl)
      have tW1 : Touch w W1 F := by rw [hW1]; exact (ht.trans (Touch.set _ g _ _ hgF))
      have rW1 : Hid (∀ y ∈ F, y ≠ g → y ∉ F1 ++ (F2 ++ ([])) → W1.heap[y]? = wr.heap[y]?) := fun y hy hyg hyf => by rw [hW1]; exact ((box_other _ hyg).trans rfl)
      have zW1 : wr.heap.size ≤ W1.heap.size := by rw [hW1]; simp
      rw [← hW1]
      refine (qc1.out _ pW1_1).mono ?_
      rintro e w1 ⟨rfl, om1, tq1⟩
      have tb1 : Touch W1 w1 F := tq1.mono fun y hy => hfF y (List.mem_append_left _ hy)
      have hhw1 : w1.heap[g]? = some (.cells ((cur).setIfInBounds (j * 3) (.int .i64 ((kk : Int)))) t (0, 0)) := (tq1.block g (lt_heap hhW1) HGN.out.1).trans hhW1
      have pw1_1 := om1
      have pw1_2 := tq1.own pW1_2 (fun y hy hyq => (List.nodup_append.1 hnf).2.2 y hyq y (List.mem_append_left _ hy) rfl)
      have rw1 : Hid (∀ y ∈ F, y ≠ g → y ∉ F1 ++ (F2 ++ ([])) → w1.heap[y]? = wr.heap[y]?) := fun y hy hyg hyf => (tq1.block y (Nat.lt_of_lt_of_le (ho.out.lt y hy).2 zW1) (fun h => hyf (List.mem_append_left _ h))).trans ((rW1.out y hy hyg hyf))
      have zw1 : wr.heap.size ≤ w1.heap.size := Nat.le_trans zW1 tq1.size
      have tw1 : Touch w w1 F := tW1.trans tb1
      obtain ⟨uw1_0, yw1_0⟩ : ∃ u, w1.cell? ⟨g, j * 3, none⟩ = some u := ⟨_, box_cell hhw1 (by rw [Array.getElem?_setIfInBounds_self_of_lt (by first | exact (Array.getElem?_eq_some_iff.1 HQ.out.1).1 | (simp only [Array.size_setIfInBounds]; exact (Array.getElem?_eq_some_iff.1 HQ.out.1).1))])⟩
      have yfw1_0 : w1.frozen? ⟨g, j * 3, none⟩ = false := box_frozen hhw1
      have yw1_1 : w1.cell? ⟨g, j * 3 + 1, none⟩ = some (.slice a1 n1 c1) := box_cell hhw1 (by rw [Array.getElem?_setIfInBounds_ne (by omega)]; exact HQ.out.2.1)
      have yw1_2 : w1.cell? ⟨g, j * 3 + 2, none⟩ = some (.slice a2 n2 c2) := box_cell hhw1 (by rw [Array.getElem?_setIfInBounds_ne (by omega)]; exact HQ.out.2.2.1)
      go_wp2_with fail
      refine (qc2.out _ pw1_2).mono ?_
      rintro e w2 ⟨rfl, om2, tq2⟩
      have tb2 : Touch w1 w2 F := tq2.mono fun y hy => hfF y (List.mem_append_right _ (List.mem_append_left _ hy))
      have hhw2 : w2.heap[g]? = some (.cells ((cur).setIfInBounds (j * 3) (.int .i64 ((kk : Int)))) t (0, 0)) := (tq2.block g (lt_heap hhw1) HGN.out.2.1).trans hhw1
      have pw2_1 := tq2.own pw1_1 (fun y hy hyq => (List.nodup_append.1 hnf).2.2 y hy y (List.mem_append_left _ hyq) rfl)
      have pw2_2 := om2
      have rw2 : Hid (∀ y ∈ F, y ≠ g → y ∉ F1 ++ (F2 ++ ([])) → w2.heap[y]? = wr.heap[y]?) := fun y hy hyg hyf => (tq2.block y (Nat.lt_of_lt_of_le (ho.out.lt y hy).2 zw1) (fun h => hyf (List.mem_append_right _ (List.mem_append_left _ h)))).trans ((rw1.out y hy hyg hyf))
      have zw2 : wr.heap.size ≤ w2.heap.size := Nat.le_trans zw1 tq2.size
      have tw2 : Touch w w2 F := tw1.trans tb2
      obtain ⟨uw2_0, yw2_0⟩ : ∃ u, w2.cell? ⟨g, j * 3, none⟩ = some u := ⟨_, box_cell hhw2 (by rw [Array.getElem?_setIfInBounds_self_of_lt (by first | exact (Array.getElem?_eq_some_iff.1 HQ.out.1).1 | (simp only [Array.size_setIfInBounds]; exact (Array.getElem?_eq_some_iff.1 HQ.out.1).1))])⟩
      have yfw2_0 : w2.frozen? ⟨g, j * 3, none⟩ = false := box_frozen hhw2
      have yw2_1 : w2.cell? ⟨g, j * 3 + 1, none⟩ = some (.slice a1 n1 c1) := box_cell hhw2 (by rw [Array.getElem?_setIfInBounds_ne (by omega)]; exact HQ.out.2.1)
      have yw2_2 : w2.cell? ⟨g, j * 3 + 2, none⟩ = some (.slice a2 n2 c2) := box_cell hhw2 (by rw [Array.getElem?_setIfInBounds_ne (by omega)]; exact HQ.out.2.2.1)
      have hfin : Own (.sl shNode) (w2) B [.slice (some ⟨g, 0, none⟩) n cap] (mkTo shNode d k (j + 1)) F := by
        rw [← HMS.out]
        have v1 : Own (.sl .u8) (w2) B [.slice a1 n1 c1] (Sh.mk (.sl .u8) x.2.1 (kk + 1)) F1 := by
          have hv := pw2_1
          exact hv
        have v2 : Own (.sl .u8) (w2) B [.slice a2 n2 c2] (Sh.mk (.sl .u8) x.2.2.1 (kk + 1 + Sh.cnt (.sl .u8) x.2.1)) F2 := by
          have hv := pw2_2
          rw [HK1.out, HC1.out] at hv
          exact hv
        have l0 : Value.int .i64 ((kk : Int)) = Value.int .i64 (((kk : Nat)) : Int) := by have f1 := HK1.out; have g1 := HC1.out; have f2 := HK2.out; have g2 := HC2.out; congr 1 <;> omega
        refine HCL.out _ [.int .i64 ((kk : Int)), .slice a1 n1 c1, .slice a2 n2 c2] _ ?_ ?_ ?_
        · have hb : Own shNode (w2) B [.int .i64 (((kk : Nat)) : Int), .slice a1 n1 c1, .slice a2 n2 c2] (shNode.mk x kk) (F1 ++ (F2 ++ ([]))) := own_Node (w := w2) (B := B) (d := shNode.mk x kk) v1 v2
          rw [l0]
          exact hb
        · rw [show (w2).heap[g]? = some (.cells ((cur).setIfInBounds (j * 3) (.int .i64 ((kk : Int)))) t (0, 0)) from hhw2]
          congr 2
          apply Array.ext'
          simp only [Array.toList_setIfInBounds]
          show _ = setRow cur.toList (j * 3) [.int .i64 ((kk : Int)), .slice a1 n1 c1, .slice a2 n2 c2]
          rw [setRow]
          rw [setRow_skip (by rw [List.getElem?_set_ne (by omega)]; exact (Array.getElem?_toList).trans HQ.out.2.1)]
          rw [setRow_skip (by rw [List.getElem?_set_ne (by omega)]; exact (Array.getElem?_toList).trans HQ.out.2.2.1)]
          all_goals (first | rfl | (rw [setRow]; all_goals rfl))
        · intro y hy hyg hyf; exact (rw2.out y hy hyg hyf)
      have HFIN : Hid (Own (.sl shNode) (w2) B [.slice (some ⟨g, 0, none⟩) n cap] (mkTo shNode d k (j + 1)) F ∧ Touch w (w2) F) := ⟨hfin, tw2⟩
      clear hfin tw2 hhw2 pw2_1 pw2_2
      go_wp2
      go_roundw
      case rel => exact ⟨j + 1, kk + (1 + C1 + C2), by omega, by have f1 := HK1.out; have f2 := HK2.out; congr 1 <;> omega, by go_num, HK.out, by omega, HFIN.out.1, HFIN.out.2⟩
      case measure => simp [intOf]; omega
    · have e : j = n := by omega
      subst e
      have hfin : Own (.sl shNode) wr B [.slice a j cap] (Sh.mk (.sl shNode) d k) F := (congrArg (fun z => Own (.sl shNode) wr B [.slice a j cap] z F) (mkTo_all shNode d k j (Nat.le_of_eq HL.out.1))).mp ho.out
      have hke : kk = k + C := by rw [hkk.out, HL.out.2, cntTo_all shNode d j (Nat.le_of_eq HL.out.1)]
      have HH : Hid (Own (.sl shNode) wr B [.slice a j cap] (Sh.mk (.sl shNode) d k) F ∧ kk = k + C) := ⟨hfin, hke⟩
      clear hfin ho hke hkk
      go_wp2
      go_ret
      exact ⟨by rw [← HH.out.2]; rfl, HH.out.1, ht⟩

set_option maxRecDepth 100000 in
set_option maxHeartbeats 2000000 in
theorem heldNodeS_own (a : Option Addr) (n cap B k : Nat) (d : List shNode.D) (F : List Nat) (w : World) (ho : Own (.sl shNode) w B [.slice a n cap] (Sh.mk (.sl shNode) d k) F) (hnd : F.Nodup) (hk0 : 1 ≤ k) (hk : k + Sh.cnt (.sl shNode) d ≤ 1000000000000) :
    Calls Tryz.prog 51 #[.slice a n cap, .int .i64 k] w fun e w' => e = .returned (.int .i64 ((k + Sh.cnt (.sl shNode) d : Nat) : Int)) ∧ Below w.heap.size w w' := by
  obtain ⟨hl0, hm, hg⟩ := own_len ho
  have hl : d.length = n := by rw [← hl0]; exact (mkRow_length _ _ _ _).symm
  obtain ⟨C, hC⟩ : ∃ C, C = Sh.cnt (.sl shNode) d := ⟨_, rfl⟩
  rw [← hC] at hk ⊢
  have HO : Hid (Own (.sl shNode) w B [.slice a n cap] (Sh.mk (.sl shNode) d k) F ∧ F.Nodup) := ⟨ho, hnd⟩
  have HL : Hid (d.length = n ∧ C = Sh.cnt (.sl shNode) d) := ⟨hl, hC⟩
  clear ho hnd hl hl0 hC
  unfold maxLen at hm
  go_enter Tryz.func51, Tryz.ntmps51
  go_wp2
  go_loopw [1, 5] (fun m i wr => ∃ j kk : Nat, j ≤ n ∧ m = .int .i64 (kk : Int) ∧ i = .int .i64 j ∧ Hid (kk = k + cntTo shNode d j) ∧ 1 ≤ kk ∧ Below w.heap.size w wr) (fun _ i _ => n - (intOf i).toNat)
  case atStart => exact ⟨0, k, Nat.zero_le _, rfl, rfl, by show k = _; rw [cntTo_zero]; rfl, hk0, Below.refl _ _⟩
  case round =>
    obtain ⟨j, kk, hj, rfl, rfl, hkk, hkk1, hbel⟩ := hrel
    by_cases hlt : j < n
    · obtain ⟨g, rfl⟩ := hg.resolve_left (by omega)
      obtain ⟨t, cur, c, x', f, hh, hx', hoe, hnf, hgf, hfF, hgF, hBg, hcur, -⟩ := own_elem HO.out.1 HO.out.2 j hlt
      have hjd : j < d.length := by rw [HL.out.1]; exact hlt
      obtain ⟨x, hxe⟩ : ∃ x, x = d[j] := ⟨_, rfl⟩
      have hxd : shNode.at d j = some x := by rw [hxe]; exact List.getElem?_eq_getElem hjd
      have hxm := mk_at shNode d k j x hxd
      rw [← hkk.out] at hxm
      obtain rfl : shNode.mk x kk = x' := Option.some.inj (hxm.symm.trans hx')
      have hsucc := cntTo_succ shNode d j x hxd
      have hle := cntTo_le shNode d (j + 1)
      rw [cnt_Node] at hsucc
      have hglt := lt_heap hh
      obtain ⟨a1, n1, c1, F1, a2, n2, c2, F2, rfl, rfl, o1, o2⟩ := openO_Node hoe
      obtain ⟨C1, hC1⟩ : ∃ C, C = Sh.cnt (.sl .u8) x.2.1 := ⟨_, rfl⟩
      obtain ⟨C2, hC2⟩ : ∃ C, C = Sh.cnt (.sl .u8) x.2.2.1 := ⟨_, rfl⟩
      rw [← hC1, ← hC2] at hsucc
      have hkn : kk + (1 + C1 + C2) ≤ 1000000000000 := by have h1 := hkk.out; have h2 := HL.out.2; rw [← h2] at hle; omega
      have HK : Hid (kk + (1 + C1 + C2) = k + cntTo shNode d (j + 1)) := by show _ = _; rw [hsucc, hkk.out]; omega
      have e0 : Value.int .i64 (((kk : Nat)) : Int) = Value.int .i64 ((kk : Int)) := by congr 1 <;> omega
      have cw0 : w.cell? ⟨g, j * 3, none⟩ = some (.int .i64 ((kk : Int))) := (box_cell hh (hcur 0 (by decide))).trans (congrArg some e0)
      have ne0 : (((kk : Int)) != ((kk : Int))) = false := by simp
      obtain ⟨k1, hk1⟩ : ∃ k' : Nat, k' = kk + 1 + C1 := ⟨_, rfl⟩
      have ou1 : Own (.sl .u8) w B [.slice a1 n1 c1] (Sh.mk (.sl .u8) x.2.1 (kk + 1)) F1 := by
        have hv : Own (.sl .u8) w B [.slice a1 n1 c1] (Sh.mk (.sl .u8) x.2.1 (kk + 1)) F1 := o1
        exact hv
      have qc1 : Hid (∀ w' : World, Below w.heap.size w w' → Calls Tryz.prog 103 #[.slice a1 n1 c1, .int .i64 ((kk : Int) + 1)] w' fun e w'' => e = .returned (.int .i64 (k1 : Int)) ∧ Below w'.heap.size w' w'') := fun w' h' => by
        have e : (((kk + 1 : Nat)) : Int) = (kk : Int) + 1 := by omega
        rw [← e, hk1, hC1]
        exact heldByteS_own a1 n1 c1 B (kk + 1) _ F1 w' (ou1.later h') (by rw [← hC1]; omega)
      have cw1 : w.cell? ⟨g, j * 3 + 1, none⟩ = some (.slice a1 n1 c1) := box_cell hh (hcur 1 (by decide))
      have nn1 : ¬ ((k1 : Int) < 0) := by omega
      have HK1 : Hid (k1 = kk + 1 + C1) := hk1
      obtain ⟨k2, hk2⟩ : ∃ k' : Nat, k' = (k1) + C2 := ⟨_, rfl⟩
      have ou2 : Own (.sl .u8) w B [.slice a2 n2 c2] (Sh.mk (.sl .u8) x.2.2.1 ((k1))) F2 := by
        have hv : Own (.sl .u8) w B [.slice a2 n2 c2] (Sh.mk (.sl .u8) x.2.2.1 (kk + 1 + Sh.cnt (.sl .u8) x.2.1)) F2 := o2
        rw [show kk + 1 + Sh.cnt (.sl .u8) x.2.1 = (k1) by have f1 := hk1; have g1 := hC1; omega] at hv
        exact hv
      have qc2 : Hid (∀ w' : World, Below w.heap.size w w' → Calls Tryz.prog 103 #[.slice a2 n2 c2, .int .i64 ((k1 : Int))] w' fun e w'' => e = .returned (.int .i64 (k2 : Int)) ∧ Below w'.heap.size w' w'') := fun w' h' => by
        have e : ((((k1) : Nat)) : Int) = (k1 : Int) := by omega
        rw [← e, hk2, hC2]
        exact heldByteS_own a2 n2 c2 B ((k1)) _ F2 w' (ou2.later h') (by rw [← hC2]; omega)
      have cw2 : w.cell? ⟨g, j * 3 + 2, none⟩ = some (.slice a2 n2 c2) := box_cell hh (hcur 2 (by decide))
      have nn2 : ¬ ((k2 : Int) < 0) := by omega
      have HK2 : Hid (k2 = (k1) + C2) := hk2
      clear hh hx' hoe hnf hgf hfF hgF hBg hcur hxd hxm hsucc hle hxe e0 hk1 hC1 o1 ou1 hk2 hC2 o2 ou2
      have HCW : Hid (w.cell? ⟨g, j * 3, none⟩ = some (.int .i64 ((kk : Int))) ∧ w.cell? ⟨g, j * 3 + 1, none⟩ = some (.slice a1 n1 c1) ∧ w.cell? ⟨g, j * 3 + 2, none⟩ = some (.slice a2 n2 c2) ∧ True) := ⟨cw0, cw1, cw2, trivial⟩
      clear cw0 cw1 cw2
      have ywr_0 : wr.cell? ⟨g, j * 3, none⟩ = _ := (hbel.cell (p := ⟨g, j * 3, none⟩) hglt).trans HCW.out.1
      have ywr_1 : wr.cell? ⟨g, j * 3 + 1, none⟩ = _ := (hbel.cell (p := ⟨g, j * 3 + 1, none⟩) hglt).trans HCW.out.2.1
      have ywr_2 : wr.cell? ⟨g, j * 3 + 2, none⟩ = _ := (hbel.cell (p := ⟨g, j * 3 + 2, none⟩) hglt).trans HCW.out.2.2.1
      go_wp2_with fail
      refine (qc1.out _ hbel).mono ?_
      rintro e w1 ⟨rfl, hb1⟩
      have b1 := hbel.trans (hb1.mono hbel.size)
      have yw1_2 : w1.cell? ⟨g, j * 3 + 2, none⟩ = _ := (b1.cell (p := ⟨g, j * 3 + 2, none⟩) hglt).trans HCW.out.2.2.1
      clear hb1
      go_wp2_with fail
      refine (qc2.out _ b1).mono ?_
      rintro e w2 ⟨rfl, hb2⟩
      have b2 := b1.trans (hb2.mono b1.size)
      clear hb2
      go_wp2
      go_roundw
      case rel => exact ⟨j + 1, kk + (1 + C1 + C2), by omega, by have f1 := HK1.out; have f2 := HK2.out; congr 1 <;> omega, by go_num, HK.out, by omega, b2⟩
      case measure => simp [intOf]; omega
    · have e : j = n := by omega
      subst e
      have hke : kk = k + C := by rw [hkk.out, HL.out.2, cntTo_all shNode d j (Nat.le_of_eq HL.out.1)]
      have HH : Hid (kk = k + C) := hke
      clear hke hkk
      go_wp2
      go_ret
      exact ⟨by rw [← HH.out]; rfl, hbel⟩

end Go.Proofs.YtkaegbhmeonjfaaGreat

/- MkTurn: The marks of the type Turn. By program (mkgen.py). -/
namespace Go.Proofs.YtkaegbhmeonjfaaGreat
open Go.RowKit
set_option linter.unusedVariables false
set_option maxRecDepth 100000

theorem openO_Turn {w : World} {B : Nat} {cs : List Value} {d : shTurn.D} {F : List Nat} (h : Own shTurn w B cs d F) :
    cs = [.int .i64 (d.1), .string (d.2.1), .string (d.2.2.1), .int .i64 (d.2.2.2.1)] ∧ F = [] := by
  obtain ⟨_, _, G0, _, rfl, rfl, h0, _, _, G1, _, rfl, rfl, h1, _, _, G2, _, rfl, rfl, h2, _, _, G3, _, rfl, rfl, h3, hE⟩ := h
  obtain ⟨rfl, rfl⟩ := h0
  obtain ⟨⟨rfl, _⟩, rfl⟩ := h1
  obtain ⟨⟨rfl, _⟩, rfl⟩ := h2
  obtain ⟨rfl, rfl⟩ := h3
  obtain ⟨rfl, rfl⟩ := hE
  exact ⟨rfl, by simp⟩

theorem cnt_Turn (d : shTurn.D) : shTurn.cnt d = 1 + 1 + 1 + 1 := by
  show 1 + (1 + (1 + (1 + (0)))) = _
  omega

set_option maxRecDepth 100000 in
set_option maxHeartbeats 2000000 in
theorem markTurnS_own (a : Option Addr) (n cap B k : Nat) (d : List shTurn.D) (F : List Nat) (w : World) (ho : Own (.sl shTurn) w B [.slice a n cap] d F) (hnd : F.Nodup) (hk0 : 1 ≤ k) (hk : k + Sh.cnt (.sl shTurn) d ≤ 1000000000000) :
    Calls Tryz.prog 50 #[.slice a n cap, .int .i64 k] w fun e w' => e = .returned (.int .i64 ((k + Sh.cnt (.sl shTurn) d : Nat) : Int)) ∧ Own (.sl shTurn) w' B [.slice a n cap] (Sh.mk (.sl shTurn) d k) F ∧ Touch w w' F := by
  obtain ⟨hl, hm, hg⟩ := own_len ho
  obtain ⟨C, hC⟩ : ∃ C, C = Sh.cnt (.sl shTurn) d := ⟨_, rfl⟩
  rw [← hC] at hk ⊢
  have HO : Hid (Own (.sl shTurn) w B [.slice a n cap] d F ∧ F.Nodup) := ⟨ho, hnd⟩
  have HL : Hid (d.length = n ∧ C = Sh.cnt (.sl shTurn) d) := ⟨hl, hC⟩
  clear ho hnd hl hC
  unfold maxLen at hm
  go_enter Tryz.func50, Tryz.ntmps50
  go_wp2
  go_loopw [1, 5] (fun m i wr => ∃ j kk : Nat, j ≤ n ∧ m = .int .i64 (kk : Int) ∧ i = .int .i64 j ∧ Hid (kk = k + cntTo shTurn d j) ∧ 1 ≤ kk ∧ Hid (Own (.sl shTurn) wr B [.slice a n cap] (mkTo shTurn d k j) F) ∧ Touch w wr F) (fun _ i _ => n - (intOf i).toNat)
  case atStart => exact ⟨0, k, Nat.zero_le _, rfl, rfl, by show k = _; rw [cntTo_zero]; rfl, hk0, by show Own _ _ _ _ _ _; rw [mkTo_zero]; exact HO.out.1, Touch.refl _ _⟩
  case round =>
    obtain ⟨j, kk, hj, rfl, rfl, hkk, hkk1, ho, ht⟩ := hrel
    by_cases hlt : j < n
    · obtain ⟨g, rfl⟩ := hg.resolve_left (by omega)
      obtain ⟨t, cur, c, x, f, hh, hx, hoe, hnf, hgf, hfF, hgF, hBg, hcur, hclose⟩ := own_elem ho.out HO.out.2 j hlt
      have hxd : shTurn.at d j = some x := by
        have h1 : j < d.length := by rw [HL.out.1]; exact hlt
        have h2 : shTurn.at d j = some d[j] := List.getElem?_eq_getElem h1
        have h3 := mkTo_at shTurn d k j _ h2
        rw [h2, ← h3]; exact hx
      have hsucc := cntTo_succ shTurn d j x hxd
      have hle := cntTo_le shTurn d (j + 1)
      have hms := mkTo_set shTurn d k j x hxd
      rw [← hkk.out] at hms
      rw [cnt_Turn] at hsucc
      obtain ⟨rfl, rfl⟩ := openO_Turn hoe
      have hkn : kk + (1 + 1 + 1 + 1) ≤ 1000000000000 := by have h1 := hkk.out; have h2 := HL.out.2; rw [← h2] at hle; omega
      have HK : Hid (kk + (1 + 1 + 1 + 1) = k + cntTo shTurn d (j + 1)) := by show _ = _; rw [hsucc, hkk.out]; omega
      have hq0 : cur[j * 4]? = some (.int .i64 (x.1)) := hcur 0 (by decide)
      have hq1 : cur[j * 4 + 1]? = some (.string (x.2.1)) := hcur 1 (by decide)
      have hq2 : cur[j * 4 + 2]? = some (.string (x.2.2.1)) := hcur 2 (by decide)
      have hq3 : cur[j * 4 + 3]? = some (.int .i64 (x.2.2.2.1)) := hcur 3 (by decide)
      have HQ : Hid (cur[j * 4]? = some (.int .i64 (x.1)) ∧ cur[j * 4 + 1]? = some (.string (x.2.1)) ∧ cur[j * 4 + 2]? = some (.string (x.2.2.1)) ∧ cur[j * 4 + 3]? = some (.int .i64 (x.2.2.2.1)) ∧ True) := ⟨hq0, hq1, hq2, hq3, trivial⟩
      have qc1 : Hid (∀ w' : World, Calls Tryz.prog 72 #[.int .i64 ((kk : Int) + 1)] w' fun e w'' => e = .returned (.string (mtext (kk + 1))) ∧ Below w'.heap.size w' w'') := fun w' => by
        have e : (((kk + 1 : Nat)) : Int) = (kk : Int) + 1 := by omega
        rw [← e]
        exact markText_any (kk + 1) w' (by omega) (by omega)
      obtain ⟨T1, hT1⟩ : ∃ T, T = mtext (kk + 1) := ⟨_, rfl⟩
      have HT1 : Hid (T1 = mtext (kk + 1)) := hT1
      rw [← hT1] at qc1
      clear hT1
      have qc2 : Hid (∀ w' : World, Calls Tryz.prog 72 #[.int .i64 ((kk : Int) + 1 + 1)] w' fun e w'' => e = .returned (.string (mtext (kk + 1 + 1))) ∧ Below w'.heap.size w' w'') := fun w' => by
        have e : (((kk + 1 + 1 : Nat)) : Int) = (kk : Int) + 1 + 1 := by omega
        rw [← e]
        exact markText_any (kk + 1 + 1) w' (by omega) (by omega)
      obtain ⟨T2, hT2⟩ : ∃ T, T = mtext (kk + 1 + 1) := ⟨_, rfl⟩
      have HT2 : Hid (T2 = mtext (kk + 1 + 1)) := hT2
      rw [← hT2] at qc2
      clear hT2
      have HGN : Hid (True) := trivial
      have HMS : Hid (List.set (mkTo shTurn d k j) j (shTurn.mk x kk) = mkTo shTurn d k (j + 1)) := hms
      have HCL : Hid (∀ (w2 : World) (c' : List Value) (x' : shTurn.D), Own shTurn w2 B c' x' ([]) → w2.heap[g]? = some (.cells (setRow cur.toList (j * shTurn.size) c').toArray t (0, 0)) → (∀ y ∈ F, y ≠ g → y ∉ [] → w2.heap[y]? = wr.heap[y]?) → Own (.sl shTurn) w2 B [.slice (some ⟨g, 0, none⟩) n cap] (List.set (mkTo shTurn d k j) j x') F) := hclose
      obtain ⟨uwr_0, ywr_0⟩ : ∃ u, wr.cell? ⟨g, j * 4, none⟩ = some u := ⟨_, box_cell hh (by exact HQ.out.1)⟩
      have yfwr_0 : wr.frozen? ⟨g, j * 4, none⟩ = false := box_frozen hh
      obtain ⟨uwr_1, ywr_1⟩ : ∃ u, wr.cell? ⟨g, j * 4 + 1, none⟩ = some u := ⟨_, box_cell hh (by exact HQ.out.2.1)⟩
      have yfwr_1 : wr.frozen? ⟨g, j * 4 + 1, none⟩ = false := box_frozen hh
      obtain ⟨uwr_2, ywr_2⟩ : ∃ u, wr.cell? ⟨g, j * 4 + 2, none⟩ = some u := ⟨_, box_cell hh (by exact HQ.out.2.2.1)⟩
      have yfwr_2 : wr.frozen? ⟨g, j * 4 + 2, none⟩ = false := box_frozen hh
      obtain ⟨uwr_3, ywr_3⟩ : ∃ u, wr.cell? ⟨g, j * 4 + 3, none⟩ = some u := ⟨_, box_cell hh (by exact HQ.out.2.2.2.1)⟩
      have yfwr_3 : wr.frozen? ⟨g, j * 4 + 3, none⟩ = false := box_frozen hh
      clear hms hclose hcur hsucc hle hx hxd hoe hgf hq0 hq1 hq2 hq3
      go_wp2_with fail
      obtain ⟨W1, hW1⟩ : ∃ W, W = (wr).setCell ⟨g, j * 4, none⟩ (.int .i64 ((kk : Int))) := ⟨_, rfl⟩
      have hhW1 : W1.heap[g]? = some (.cells ((cur).setIfInBounds (j * 4) (.int .i64 ((kk : Int)))) t (0, 0)) := by rw [hW1]; exact box_set (j := j * 4) (.int .i64 ((kk : Int))) (hh)
      have tW1 : Touch w W1 F := by rw [hW1]; exact (ht.trans (Touch.set _ g _ _ hgF))
      have rW1 : Hid (∀ y ∈ F, y ≠ g → y ∉ [] → W1.heap[y]? = wr.heap[y]?) := fun y hy hyg hyf => by rw [hW1]; exact ((box_other _ hyg).trans rfl)
      have zW1 : wr.heap.size ≤ W1.heap.size := by rw [hW1]; simp
      rw [← hW1]
      refine (qc1.out _).mono ?_
      rintro e w1 ⟨rfl, hb1⟩
      have tb1 : Touch W1 w1 F := Touch.of_below hb1 F
      have hhw1 : w1.heap[g]? = some (.cells ((cur).setIfInBounds (j * 4) (.int .i64 ((kk : Int)))) t (0, 0)) := (hb1.block g (lt_heap hhW1)).trans hhW1
      have rw1 : Hid (∀ y ∈ F, y ≠ g → y ∉ [] → w1.heap[y]? = wr.heap[y]?) := fun y hy hyg hyf => (hb1.block y (Nat.lt_of_lt_of_le (ho.out.lt y hy).2 zW1)).trans ((rW1.out y hy hyg hyf))
      have zw1 : wr.heap.size ≤ w1.heap.size := Nat.le_trans zW1 hb1.size
      have tw1 : Touch w w1 F := tW1.trans tb1
      obtain ⟨uw1_0, yw1_0⟩ : ∃ u, w1.cell? ⟨g, j * 4, none⟩ = some u := ⟨_, box_cell hhw1 (by rw [Array.getElem?_setIfInBounds_self_of_lt (by first | exact (Array.getElem?_eq_some_iff.1 HQ.out.1).1 | (simp only [Array.size_setIfInBounds]; exact (Array.getElem?_eq_some_iff.1 HQ.out.1).1))])⟩
      have yfw1_0 : w1.frozen? ⟨g, j * 4, none⟩ = false := box_frozen hhw1
      obtain ⟨uw1_1, yw1_1⟩ : ∃ u, w1.cell? ⟨g, j * 4 + 1, none⟩ = some u := ⟨_, box_cell hhw1 (by rw [Array.getElem?_setIfInBounds_ne (by omega)]; exact HQ.out.2.1)⟩
      have yfw1_1 : w1.frozen? ⟨g, j * 4 + 1, none⟩ = false := box_frozen hhw1
      obtain ⟨uw1_2, yw1_2⟩ : ∃ u, w1.cell? ⟨g, j * 4 + 2, none⟩ = some u := ⟨_, box_cell hhw1 (by rw [Array.getElem?_setIfInBounds_ne (by omega)]; exact HQ.out.2.2.1)⟩
      have yfw1_2 : w1.frozen? ⟨g, j * 4 + 2, none⟩ = false := box_frozen hhw1
      obtain ⟨uw1_3, yw1_3⟩ : ∃ u, w1.cell? ⟨g, j * 4 + 3, none⟩ = some u := ⟨_, box_cell hhw1 (by rw [Array.getElem?_setIfInBounds_ne (by omega)]; exact HQ.out.2.2.2.1)⟩
      have yfw1_3 : w1.frozen? ⟨g, j * 4 + 3, none⟩ = false := box_frozen hhw1
      go_wp2_with fail
      obtain ⟨W2, hW2⟩ : ∃ W, W = (w1).setCell ⟨g, j * 4 + 1, none⟩ (.string T1) := ⟨_, rfl⟩
      have hhW2 : W2.heap[g]? = some (.cells (((cur).setIfInBounds (j * 4) (.int .i64 ((kk : Int)))).setIfInBounds (j * 4 + 1) (.string T1)) t (0, 0)) := by rw [hW2]; exact box_set (j := j * 4 + 1) (.string T1) (hhw1)
      have tW2 : Touch w W2 F := by rw [hW2]; exact (tw1.trans (Touch.set _ g _ _ hgF))
      have rW2 : Hid (∀ y ∈ F, y ≠ g → y ∉ [] → W2.heap[y]? = wr.heap[y]?) := fun y hy hyg hyf => by rw [hW2]; exact ((box_other _ hyg).trans (rw1.out y hy hyg hyf))
      have zW2 : wr.heap.size ≤ W2.heap.size := by rw [hW2]; simp; omega
      rw [← hW2]
      refine (qc2.out _).mono ?_
      rintro e w2 ⟨rfl, hb2⟩
      have tb2 : Touch W2 w2 F := Touch.of_below hb2 F
      have hhw2 : w2.heap[g]? = some (.cells (((cur).setIfInBounds (j * 4) (.int .i64 ((kk : Int)))).setIfInBounds (j * 4 + 1) (.string T1)) t (0, 0)) := (hb2.block g (lt_heap hhW2)).trans hhW2
      have rw2 : Hid (∀ y ∈ F, y ≠ g → y ∉ [] → w2.heap[y]? = wr.heap[y]?) := fun y hy hyg hyf => (hb2.block y (Nat.lt_of_lt_of_le (ho.out.lt y hy).2 zW2)).trans ((rW2.out y hy hyg hyf))
      have zw2 : wr.heap.size ≤ w2.heap.size := Nat.le_trans zW2 hb2.size
      have tw2 : Touch w w2 F := tW2.trans tb2
      obtain ⟨uw2_0, yw2_0⟩ : ∃ u, w2.cell? ⟨g, j * 4, none⟩ = some u := ⟨_, box_cell hhw2 (by rw [Array.getElem?_setIfInBounds_ne (by omega)]; rw [Array.getElem?_setIfInBounds_self_of_lt (by first | exact (Array.getElem?_eq_some_iff.1 HQ.out.1).1 | (simp only [Array.size_setIfInBounds]; exact (Array.getElem?_eq_some_iff.1 HQ.out.1).1))])⟩
      have yfw2_0 : w2.frozen? ⟨g, j * 4, none⟩ = false := box_frozen hhw2
      obtain ⟨uw2_1, yw2_1⟩ : ∃ u, w2.cell? ⟨g, j * 4 + 1, none⟩ = some u := ⟨_, box_cell hhw2 (by rw [Array.getElem?_setIfInBounds_self_of_lt (by first | exact (Array.getElem?_eq_some_iff.1 HQ.out.2.1).1 | (simp only [Array.size_setIfInBounds]; exact (Array.getElem?_eq_some_iff.1 HQ.out.2.1).1))])⟩
      have yfw2_1 : w2.frozen? ⟨g, j * 4 + 1, none⟩ = false := box_frozen hhw2
      obtain ⟨uw2_2, yw2_2⟩ : ∃ u, w2.cell? ⟨g, j * 4 + 2, none⟩ = some u := ⟨_, box_cell hhw2 (by rw [Array.getElem?_setIfInBounds_ne (by omega)]; rw [Array.getElem?_setIfInBounds_ne (by omega)]; exact HQ.out.2.2.1)⟩
      have yfw2_2 : w2.frozen? ⟨g, j * 4 + 2, none⟩ = false := box_frozen hhw2
      obtain ⟨uw2_3, yw2_3⟩ : ∃ u, w2.cell? ⟨g, j * 4 + 3, none⟩ = some u := ⟨_, box_cell hhw2 (by rw [Array.getElem?_setIfInBounds_ne (by omega)]; rw [Array.getElem?_setIfInBounds_ne (by omega)]; exact HQ.out.2.2.2.1)⟩
      have yfw2_3 : w2.frozen? ⟨g, j * 4 + 3, none⟩ = false := box_frozen hhw2
      have hfin : Own (.sl shTurn) (((w2).setCell ⟨g, j * 4 + 2, none⟩ (.string T2)).setCell ⟨g, j * 4 + 3, none⟩ (.int .i64 ((kk : Int) + 1 + 1 + 1))) B [.slice (some ⟨g, 0, none⟩) n cap] (mkTo shTurn d k (j + 1)) F := by
        rw [← HMS.out]
        have l0 : Value.int .i64 ((kk : Int)) = Value.int .i64 (((kk : Nat)) : Int) := by congr 1 <;> omega
        have l1 : Value.string T1 = Value.string (mtext (kk + 1)) := by rw [HT1.out]
        have l2 : Value.string T2 = Value.string (mtext (kk + 1 + 1)) := by rw [HT2.out]
        have l3 : Value.int .i64 ((kk : Int) + 1 + 1 + 1) = Value.int .i64 (((kk + 1 + 1 + 1 : Nat)) : Int) := by congr 1 <;> omega
        refine HCL.out _ [.int .i64 ((kk : Int)), .string T1, .string T2, .int .i64 ((kk : Int) + 1 + 1 + 1)] _ ?_ ?_ ?_
        · have hb : Own shTurn (((w2).setCell ⟨g, j * 4 + 2, none⟩ (.string T2)).setCell ⟨g, j * 4 + 3, none⟩ (.int .i64 ((kk : Int) + 1 + 1 + 1))) B [.int .i64 (((kk : Nat)) : Int), .string (mtext (kk + 1)), .string (mtext (kk + 1 + 1)), .int .i64 (((kk + 1 + 1 + 1 : Nat)) : Int)] (shTurn.mk x kk) ([]) := own_Turn (w := ((w2).setCell ⟨g, j * 4 + 2, none⟩ (.string T2)).setCell ⟨g, j * 4 + 3, none⟩ (.int .i64 ((kk : Int) + 1 + 1 + 1))) (B := B) (d := shTurn.mk x kk) (mtext_le _) (mtext_le _)
          rw [l0, l1, l2, l3]
          exact hb
        · rw [show (((w2).setCell ⟨g, j * 4 + 2, none⟩ (.string T2)).setCell ⟨g, j * 4 + 3, none⟩ (.int .i64 ((kk : Int) + 1 + 1 + 1))).heap[g]? = some (.cells (((((cur).setIfInBounds (j * 4) (.int .i64 ((kk : Int)))).setIfInBounds (j * 4 + 1) (.string T1)).setIfInBounds (j * 4 + 2) (.string T2)).setIfInBounds (j * 4 + 3) (.int .i64 ((kk : Int) + 1 + 1 + 1))) t (0, 0)) from box_set (j := j * 4 + 3) (.int .i64 ((kk : Int) + 1 + 1 + 1)) (box_set (j := j * 4 + 2) (.string T2) (hhw2))]
          congr 2
          apply Array.ext'
          simp only [Array.toList_setIfInBounds]
          show _ = setRow cur.toList (j * 4) [.int .i64 ((kk : Int)), .string T1, .string T2, .int .i64 ((kk : Int) + 1 + 1 + 1)]
          rw [setRow]
          rw [setRow]
          rw [setRow]
          rw [setRow]
          all_goals (first | rfl | (rw [setRow]; all_goals rfl))
        · intro y hy hyg hyf; exact ((box_other _ hyg).trans ((box_other _ hyg).trans (rw2.out y hy hyg hyf)))
      have HFIN : Hid (Own (.sl shTurn) (((w2).setCell ⟨g, j * 4 + 2, none⟩ (.string T2)).setCell ⟨g, j * 4 + 3, none⟩ (.int .i64 ((kk : Int) + 1 + 1 + 1))) B [.slice (some ⟨g, 0, none⟩) n cap] (mkTo shTurn d k (j + 1)) F ∧ Touch w (((w2).setCell ⟨g, j * 4 + 2, none⟩ (.string T2)).setCell ⟨g, j * 4 + 3, none⟩ (.int .i64 ((kk : Int) + 1 + 1 + 1))) F) := ⟨hfin, ((tw2.trans (Touch.set _ g _ _ hgF)).trans (Touch.set _ g _ _ hgF))⟩
      clear hfin tw2 hhw2 
      go_wp2
      go_roundw
      case rel => exact ⟨j + 1, kk + (1 + 1 + 1 + 1), by omega, by congr 1 <;> omega, by go_num, HK.out, by omega, HFIN.out.1, HFIN.out.2⟩
      case measure => simp [intOf]; omega
    · have e : j = n := by omega
      subst e
      have hfin : Own (.sl shTurn) wr B [.slice a j cap] (Sh.mk (.sl shTurn) d k) F := (congrArg (fun z => Own (.sl shTurn) wr B [.slice a j cap] z F) (mkTo_all shTurn d k j (Nat.le_of_eq HL.out.1))).mp ho.out
      have hke : kk = k + C := by rw [hkk.out, HL.out.2, cntTo_all shTurn d j (Nat.le_of_eq HL.out.1)]
      have HH : Hid (Own (.sl shTurn) wr B [.slice a j cap] (Sh.mk (.sl shTurn) d k) F ∧ kk = k + C) := ⟨hfin, hke⟩
      clear hfin ho hke hkk
      go_wp2
      go_ret
      exact ⟨by rw [← HH.out.2]; rfl, HH.out.1, ht⟩

set_option maxRecDepth 100000 in
set_option maxHeartbeats 2000000 in
theorem heldTurnS_own (a : Option Addr) (n cap B k : Nat) (d : List shTurn.D) (F : List Nat) (w : World) (ho : Own (.sl shTurn) w B [.slice a n cap] (Sh.mk (.sl shTurn) d k) F) (hnd : F.Nodup) (hk0 : 1 ≤ k) (hk : k + Sh.cnt (.sl shTurn) d ≤ 1000000000000) :
    Calls Tryz.prog 53 #[.slice a n cap, .int .i64 k] w fun e w' => e = .returned (.int .i64 ((k + Sh.cnt (.sl shTurn) d : Nat) : Int)) ∧ Below w.heap.size w w' := by
  obtain ⟨hl0, hm, hg⟩ := own_len ho
  have hl : d.length = n := by rw [← hl0]; exact (mkRow_length _ _ _ _).symm
  obtain ⟨C, hC⟩ : ∃ C, C = Sh.cnt (.sl shTurn) d := ⟨_, rfl⟩
  rw [← hC] at hk ⊢
  have HO : Hid (Own (.sl shTurn) w B [.slice a n cap] (Sh.mk (.sl shTurn) d k) F ∧ F.Nodup) := ⟨ho, hnd⟩
  have HL : Hid (d.length = n ∧ C = Sh.cnt (.sl shTurn) d) := ⟨hl, hC⟩
  clear ho hnd hl hl0 hC
  unfold maxLen at hm
  go_enter Tryz.func53, Tryz.ntmps53
  go_wp2
  go_loopw [1, 5] (fun m i wr => ∃ j kk : Nat, j ≤ n ∧ m = .int .i64 (kk : Int) ∧ i = .int .i64 j ∧ Hid (kk = k + cntTo shTurn d j) ∧ 1 ≤ kk ∧ Below w.heap.size w wr) (fun _ i _ => n - (intOf i).toNat)
  case atStart => exact ⟨0, k, Nat.zero_le _, rfl, rfl, by show k = _; rw [cntTo_zero]; rfl, hk0, Below.refl _ _⟩
  case round =>
    obtain ⟨j, kk, hj, rfl, rfl, hkk, hkk1, hbel⟩ := hrel
    by_cases hlt : j < n
    · obtain ⟨g, rfl⟩ := hg.resolve_left (by omega)
      obtain ⟨t, cur, c, x', f, hh, hx', hoe, hnf, hgf, hfF, hgF, hBg, hcur, -⟩ := own_elem HO.out.1 HO.out.2 j hlt
      have hjd : j < d.length := by rw [HL.out.1]; exact hlt
      obtain ⟨x, hxe⟩ : ∃ x, x = d[j] := ⟨_, rfl⟩
      have hxd : shTurn.at d j = some x := by rw [hxe]; exact List.getElem?_eq_getElem hjd
      have hxm := mk_at shTurn d k j x hxd
      rw [← hkk.out] at hxm
      obtain rfl : shTurn.mk x kk = x' := Option.some.inj (hxm.symm.trans hx')
      have hsucc := cntTo_succ shTurn d j x hxd
      have hle := cntTo_le shTurn d (j + 1)
      rw [cnt_Turn] at hsucc
      have hglt := lt_heap hh
      obtain ⟨rfl, rfl⟩ := openO_Turn hoe
      have hkn : kk + (1 + 1 + 1 + 1) ≤ 1000000000000 := by have h1 := hkk.out; have h2 := HL.out.2; rw [← h2] at hle; omega
      have HK : Hid (kk + (1 + 1 + 1 + 1) = k + cntTo shTurn d (j + 1)) := by show _ = _; rw [hsucc, hkk.out]; omega
      have e0 : Value.int .i64 (((kk : Nat)) : Int) = Value.int .i64 ((kk : Int)) := by congr 1 <;> omega
      have cw0 : w.cell? ⟨g, j * 4, none⟩ = some (.int .i64 ((kk : Int))) := (box_cell hh (hcur 0 (by decide))).trans (congrArg some e0)
      have ne0 : (((kk : Int)) != ((kk : Int))) = false := by simp
      obtain ⟨T1, hT1⟩ : ∃ T, T = mtext (kk + 1) := ⟨_, rfl⟩
      have qc1 : Hid (∀ w' : World, Calls Tryz.prog 72 #[.int .i64 ((kk : Int) + 1)] w' fun e w'' => e = .returned (.string T1) ∧ Below w'.heap.size w' w'') := fun w' => by
        have e : (((kk + 1 : Nat)) : Int) = (kk : Int) + 1 := by omega
        rw [← e, hT1]
        exact markText_any (kk + 1) w' (by omega) (by omega)
      have e1 : Value.string (mtext (kk + 1)) = Value.string T1 := by rw [hT1]
      have cw1 : w.cell? ⟨g, j * 4 + 1, none⟩ = some (.string T1) := (box_cell hh (hcur 1 (by decide))).trans (congrArg some e1)
      have ne1 : (T1.toList != T1.toList) = false := by simp
      obtain ⟨T2, hT2⟩ : ∃ T, T = mtext (kk + 1 + 1) := ⟨_, rfl⟩
      have qc2 : Hid (∀ w' : World, Calls Tryz.prog 72 #[.int .i64 ((kk : Int) + 1 + 1)] w' fun e w'' => e = .returned (.string T2) ∧ Below w'.heap.size w' w'') := fun w' => by
        have e : (((kk + 1 + 1 : Nat)) : Int) = (kk : Int) + 1 + 1 := by omega
        rw [← e, hT2]
        exact markText_any (kk + 1 + 1) w' (by omega) (by omega)
      have e2 : Value.string (mtext (kk + 1 + 1)) = Value.string T2 := by rw [hT2]
      have cw2 : w.cell? ⟨g, j * 4 + 2, none⟩ = some (.string T2) := (box_cell hh (hcur 2 (by decide))).trans (congrArg some e2)
      have ne2 : (T2.toList != T2.toList) = false := by simp
      have e3 : Value.int .i64 (((kk + 1 + 1 + 1 : Nat)) : Int) = Value.int .i64 ((kk : Int) + 1 + 1 + 1) := by congr 1 <;> omega
      have cw3 : w.cell? ⟨g, j * 4 + 3, none⟩ = some (.int .i64 ((kk : Int) + 1 + 1 + 1)) := (box_cell hh (hcur 3 (by decide))).trans (congrArg some e3)
      have ne3 : (((kk : Int) + 1 + 1 + 1) != ((kk : Int) + 1 + 1 + 1)) = false := by simp
      clear hh hx' hoe hnf hgf hfF hgF hBg hcur hxd hxm hsucc hle hxe e0 e1 e2 e3 hT1 hT2
      have HCW : Hid (w.cell? ⟨g, j * 4, none⟩ = some (.int .i64 ((kk : Int))) ∧ w.cell? ⟨g, j * 4 + 1, none⟩ = some (.string T1) ∧ w.cell? ⟨g, j * 4 + 2, none⟩ = some (.string T2) ∧ w.cell? ⟨g, j * 4 + 3, none⟩ = some (.int .i64 ((kk : Int) + 1 + 1 + 1)) ∧ True) := ⟨cw0, cw1, cw2, cw3, trivial⟩
      clear cw0 cw1 cw2 cw3
      have ywr_0 : wr.cell? ⟨g, j * 4, none⟩ = _ := (hbel.cell (p := ⟨g, j * 4, none⟩) hglt).trans HCW.out.1
      have ywr_1 : wr.cell? ⟨g, j * 4 + 1, none⟩ = _ := (hbel.cell (p := ⟨g, j * 4 + 1, none⟩) hglt).trans HCW.out.2.1
      have ywr_2 : wr.cell? ⟨g, j * 4 + 2, none⟩ = _ := (hbel.cell (p := ⟨g, j * 4 + 2, none⟩) hglt).trans HCW.out.2.2.1
      have ywr_3 : wr.cell? ⟨g, j * 4 + 3, none⟩ = _ := (hbel.cell (p := ⟨g, j * 4 + 3, none⟩) hglt).trans HCW.out.2.2.2.1
      go_wp2_with fail
      have zz1 := hbel.size
      go_region_held (fun w' => w'.cell? ⟨g, j * 4 + 1, none⟩ = some (.string T1))
        (first | go_keep | (refine (hb1.cell (p := ⟨g, j * 4 + 1, none⟩) (by simp; omega)).trans ?_; assumption))
        ((go_at_call 72; refine (qc1.out _).mono ?_; rintro e w1 ⟨rfl, hb1⟩))
      have b1 := hbel.drew.trans (hb1.mono hbel.drew.size)
      have yw1_2 : w1.cell? ⟨g, j * 4 + 2, none⟩ = _ := (b1.cell (p := ⟨g, j * 4 + 2, none⟩) hglt).trans HCW.out.2.2.1
      have yw1_3 : w1.cell? ⟨g, j * 4 + 3, none⟩ = _ := (b1.cell (p := ⟨g, j * 4 + 3, none⟩) hglt).trans HCW.out.2.2.2.1
      clear hb1
      go_wp2_with fail
      have zz2 := b1.size
      go_region_held (fun w' => w'.cell? ⟨g, j * 4 + 2, none⟩ = some (.string T2))
        (first | go_keep | (refine (hb2.cell (p := ⟨g, j * 4 + 2, none⟩) (by simp; omega)).trans ?_; assumption))
        ((go_at_call 72; refine (qc2.out _).mono ?_; rintro e w2 ⟨rfl, hb2⟩))
      have b2 := b1.drew.trans (hb2.mono b1.drew.size)
      have yw2_3 : w2.cell? ⟨g, j * 4 + 3, none⟩ = _ := (b2.cell (p := ⟨g, j * 4 + 3, none⟩) hglt).trans HCW.out.2.2.2.1
      clear hb2
      go_wp2
      go_roundw
      case rel => exact ⟨j + 1, kk + (1 + 1 + 1 + 1), by omega, by congr 1 <;> omega, by go_num, HK.out, by omega, b2⟩
      case measure => simp [intOf]; omega
    · have e : j = n := by omega
      subst e
      have hke : kk = k + C := by rw [hkk.out, HL.out.2, cntTo_all shTurn d j (Nat.le_of_eq HL.out.1)]
      have HH : Hid (kk = k + C) := hke
      clear hke hkk
      go_wp2
      go_ret
      exact ⟨by rw [← HH.out]; rfl, hbel⟩

end Go.Proofs.YtkaegbhmeonjfaaGreat

/- MkDisk: The marks of the type Disk. By program (mkgen.py). -/
namespace Go.Proofs.YtkaegbhmeonjfaaGreat
open Go.RowKit
set_option linter.unusedVariables false
set_option maxRecDepth 100000

theorem openO_Disk {w : World} {B : Nat} {cs : List Value} {d : shDisk.D} {F : List Nat} (h : Own shDisk w B cs d F) :
    ∃ a3 n3 c3 F3 a4 n4 c4 F4 a5 n5 c5 F5, cs = [.int .i64 (d.1), .int .i64 (d.2.1), .int .i64 (d.2.2.1), .slice a3 n3 c3, .slice a4 n4 c4, .slice a5 n5 c5] ∧ F = F3 ++ (F4 ++ (F5 ++ ([]))) ∧ Own (.sl shNode) w B [.slice a3 n3 c3] d.2.2.2.1 F3 ∧ Own (.sl shLink) w B [.slice a4 n4 c4] d.2.2.2.2.1 F4 ∧ Own (.sl shTurn) w B [.slice a5 n5 c5] d.2.2.2.2.2.1 F5 := by
  obtain ⟨_, _, G0, _, rfl, rfl, h0, _, _, G1, _, rfl, rfl, h1, _, _, G2, _, rfl, rfl, h2, _, _, G3, _, rfl, rfl, h3, _, _, G4, _, rfl, rfl, h4, _, _, G5, _, rfl, rfl, h5, hE⟩ := h
  obtain ⟨rfl, rfl⟩ := h0
  obtain ⟨rfl, rfl⟩ := h1
  obtain ⟨rfl, rfl⟩ := h2
  obtain ⟨rfl, rfl⟩ := hE
  have g3 := Own.reads (s := (.sl shNode)) h3
  obtain ⟨a3, c3, e3, _⟩ := g3
  subst e3
  have g4 := Own.reads (s := (.sl shLink)) h4
  obtain ⟨a4, c4, e4, _⟩ := g4
  subst e4
  have g5 := Own.reads (s := (.sl shTurn)) h5
  obtain ⟨a5, c5, e5, _⟩ := g5
  subst e5
  exact ⟨a3, _, c3, G3, a4, _, c4, G4, a5, _, c5, G5, rfl, by simp, h3, h4, h5⟩

theorem cnt_Disk (d : shDisk.D) : shDisk.cnt d = 1 + 1 + 1 + Sh.cnt (.sl shNode) d.2.2.2.1 + Sh.cnt (.sl shLink) d.2.2.2.2.1 + Sh.cnt (.sl shTurn) d.2.2.2.2.2.1 := by
  show 1 + (1 + (1 + (Sh.cnt (.sl shNode) d.2.2.2.1 + (Sh.cnt (.sl shLink) d.2.2.2.2.1 + (Sh.cnt (.sl shTurn) d.2.2.2.2.2.1 + (0)))))) = _
  omega

theorem cntV_Disk (d : shDisk.D) : shDisk.cntV d = Sh.cnt (.sl shNode) d.2.2.2.1 + Sh.cnt (.sl shLink) d.2.2.2.2.1 + Sh.cnt (.sl shTurn) d.2.2.2.2.2.1 := by
  show 0 + (0 + (0 + (Sh.cnt (.sl shNode) d.2.2.2.1 + (Sh.cnt (.sl shLink) d.2.2.2.2.1 + (Sh.cnt (.sl shTurn) d.2.2.2.2.2.1 + (0)))))) = _
  omega

set_option maxRecDepth 100000 in
set_option maxHeartbeats 2000000 in
theorem markDisk_own (cs : List Value) (B k : Nat) (d : shDisk.D) (F : List Nat) (w : World) (ho : Own shDisk w B cs d F) (hnd : F.Nodup) (hk0 : 1 ≤ k) (hk : k + shDisk.cntV d ≤ 1000000000000) :
    Calls Tryz.prog 13 #[.agg cs.toArray, .int .i64 k] w fun e w' => e = .returned (.int .i64 ((k + shDisk.cntV d : Nat) : Int)) ∧ Own shDisk w' B cs (shDisk.mkV d k) F ∧ Touch w w' F := by
  rw [cntV_Disk] at hk ⊢
  obtain ⟨a3, n3, c3, F3, a4, n4, c4, F4, a5, n5, c5, F5, rfl, rfl, o3, o4, o5⟩ := openO_Disk ho
  obtain ⟨x0, e0⟩ : ∃ x : Int, x = d.1 := ⟨_, rfl⟩
  obtain ⟨x1, e1⟩ : ∃ x : Int, x = d.2.1 := ⟨_, rfl⟩
  obtain ⟨x2, e2⟩ : ∃ x : Int, x = d.2.2.1 := ⟨_, rfl⟩
  obtain ⟨C3, hC3⟩ : ∃ C, C = Sh.cnt (.sl shNode) d.2.2.2.1 := ⟨_, rfl⟩
  obtain ⟨C4, hC4⟩ : ∃ C, C = Sh.cnt (.sl shLink) d.2.2.2.2.1 := ⟨_, rfl⟩
  obtain ⟨C5, hC5⟩ : ∃ C, C = Sh.cnt (.sl shTurn) d.2.2.2.2.2.1 := ⟨_, rfl⟩
  rw [← e0, ← e1, ← e2]
  rw [← hC3, ← hC4, ← hC5] at hk ⊢
  have HST : Hid (x0 = d.1 ∧ x1 = d.2.1 ∧ x2 = d.2.2.1 ∧ True) := ⟨e0, e1, e2, trivial⟩
  obtain ⟨k3, hk3⟩ : ∃ k' : Nat, k' = k + C3 := ⟨_, rfl⟩
  have qc3 : Hid (∀ w' : World, Own (.sl shNode) w' B [.slice a3 n3 c3] d.2.2.2.1 F3 → Calls Tryz.prog 48 #[.slice a3 n3 c3, .int .i64 ((k : Int))] w' fun e w'' => e = .returned (.int .i64 (k3 : Int)) ∧ Own (.sl shNode) w'' B [.slice a3 n3 c3] (Sh.mk (.sl shNode) d.2.2.2.1 (k)) F3 ∧ Touch w' w'' F3) := fun w' h' => by rw [hk3, hC3]; exact markNodeS_own a3 n3 c3 B (k) _ F3 w' h' ((List.nodup_append.1 hnd).1) (by omega) (by rw [← hC3]; omega)
  have HK3 : Hid (k3 = k + C3) := hk3
  have HC3 : Hid (C3 = Sh.cnt (.sl shNode) d.2.2.2.1) := hC3
  obtain ⟨k4, hk4⟩ : ∃ k' : Nat, k' = (k3) + C4 := ⟨_, rfl⟩
  have qc4 : Hid (∀ w' : World, Own (.sl shLink) w' B [.slice a4 n4 c4] d.2.2.2.2.1 F4 → Calls Tryz.prog 49 #[.slice a4 n4 c4, .int .i64 ((k3 : Int))] w' fun e w'' => e = .returned (.int .i64 (k4 : Int)) ∧ Own (.sl shLink) w'' B [.slice a4 n4 c4] (Sh.mk (.sl shLink) d.2.2.2.2.1 ((k3))) F4 ∧ Touch w' w'' F4) := fun w' h' => by rw [hk4, hC4]; exact markLinkS_own a4 n4 c4 B ((k3)) _ F4 w' h' ((List.nodup_append.1 (List.nodup_append.1 hnd).2.1).1) (by omega) (by rw [← hC4]; omega)
  have HK4 : Hid (k4 = (k3) + C4) := hk4
  have HC4 : Hid (C4 = Sh.cnt (.sl shLink) d.2.2.2.2.1) := hC4
  obtain ⟨k5, hk5⟩ : ∃ k' : Nat, k' = (k4) + C5 := ⟨_, rfl⟩
  have qc5 : Hid (∀ w' : World, Own (.sl shTurn) w' B [.slice a5 n5 c5] d.2.2.2.2.2.1 F5 → Calls Tryz.prog 50 #[.slice a5 n5 c5, .int .i64 ((k4 : Int))] w' fun e w'' => e = .returned (.int .i64 (k5 : Int)) ∧ Own (.sl shTurn) w'' B [.slice a5 n5 c5] (Sh.mk (.sl shTurn) d.2.2.2.2.2.1 ((k4))) F5 ∧ Touch w' w'' F5) := fun w' h' => by rw [hk5, hC5]; exact markTurnS_own a5 n5 c5 B ((k4)) _ F5 w' h' ((List.nodup_append.1 (List.nodup_append.1 (List.nodup_append.1 hnd).2.1).2.1).1) (by omega) (by rw [← hC5]; omega)
  have HK5 : Hid (k5 = (k4) + C5) := hk5
  have HC5 : Hid (C5 = Sh.cnt (.sl shTurn) d.2.2.2.2.2.1) := hC5
  have HND : Hid ((F3 ++ (F4 ++ (F5 ++ ([])))).Nodup) := hnd
  obtain ⟨W0, hW0⟩ : ∃ W0, W0 = w.alloc (.cells #[.int .i64 x0, .int .i64 x1, .int .i64 x2, .slice a3 n3 c3, .slice a4 n4 c4, .slice a5 n5 c5] 33) := ⟨_, rfl⟩
  have bW0 : Below w.heap.size w W0 := by rw [hW0]; exact (Below.refl _ _).alloc (Nat.le_refl _) _
  have hbx : W0.heap[w.heap.size]? = some (.cells #[.int .i64 x0, .int .i64 x1, .int .i64 x2, .slice a3 n3 c3, .slice a4 n4 c4, .slice a5 n5 c5] 33 (0, 0)) := by rw [hW0]; exact heap_alloc_new w _
  have zW0 : W0.heap.size = w.heap.size + 1 := by rw [hW0]; simp
  have HW0 : Hid (W0 = w.alloc (.cells #[.int .i64 x0, .int .i64 x1, .int .i64 x2, .slice a3 n3 c3, .slice a4 n4 c4, .slice a5 n5 c5] 33)) := hW0
  have HBX : Hid (W0.heap[w.heap.size]? = some (.cells #[.int .i64 x0, .int .i64 x1, .int .i64 x2, .slice a3 n3 c3, .slice a4 n4 c4, .slice a5 n5 c5] 33 (0, 0))) := hbx
  have p0_3 := o3.later bW0
  have LT3 : Hid (∀ y ∈ F3, y < w.heap.size) := fun y hy => (o3.lt y hy).2
  have p0_4 := o4.later bW0
  have LT4 : Hid (∀ y ∈ F4, y < w.heap.size) := fun y hy => (o4.lt y hy).2
  have p0_5 := o5.later bW0
  have LT5 : Hid (∀ y ∈ F5, y < w.heap.size) := fun y hy => (o5.lt y hy).2
  have t0 : Touch w W0 (F3 ++ (F4 ++ (F5 ++ ([])))) := Touch.of_below bW0 _
  clear ho hW0 hbx e0 e1 e2 hk3 hC3 o3 hk4 hC4 o4 hk5 hC5 o5
  go_enter Tryz.func13, Tryz.ntmps13
  go_wp2_with fail
  rw [← HW0.out]
  refine (qc3.out _ p0_3).mono ?_
  rintro e w3 ⟨rfl, om3, tq3⟩
  have z3 := tq3.size
  have i3 : w3.heap[w.heap.size]? = some (.cells #[.int .i64 x0, .int .i64 x1, .int .i64 x2, .slice a3 n3 c3, .slice a4 n4 c4, .slice a5 n5 c5] 33 (0, 0)) := (tq3.block _ (lt_heap HBX.out) (fun h => by have := LT3.out _ h; omega)).trans HBX.out
  have p3_3 := om3
  have p3_4 := tq3.own p0_4 (fun y hy hyq => (List.nodup_append.1 HND.out).2.2 y hyq y (List.mem_append_left _ hy) rfl)
  have p3_5 := tq3.own p0_5 (fun y hy hyq => (List.nodup_append.1 HND.out).2.2 y hyq y (List.mem_append_right _ (List.mem_append_left _ hy)) rfl)
  have t3 := t0.trans (tq3.mono fun y hy => (List.mem_append_left _ hy : y ∈ F3 ++ (F4 ++ (F5 ++ ([])))))
  have y3_4 : w3.cell? ⟨w.heap.size, 4, none⟩ = some (.slice a4 n4 c4) := box_cell i3 rfl
  have y3_5 : w3.cell? ⟨w.heap.size, 5, none⟩ = some (.slice a5 n5 c5) := box_cell i3 rfl
  have BX3 : Hid (w3.heap[w.heap.size]? = some (.cells #[.int .i64 x0, .int .i64 x1, .int .i64 x2, .slice a3 n3 c3, .slice a4 n4 c4, .slice a5 n5 c5] 33 (0, 0))) := i3
  clear i3
  go_wp2_with fail
  refine (qc4.out _ p3_4).mono ?_
  rintro e w4 ⟨rfl, om4, tq4⟩
  have z4 := tq4.size
  have i4 : w4.heap[w.heap.size]? = some (.cells #[.int .i64 x0, .int .i64 x1, .int .i64 x2, .slice a3 n3 c3, .slice a4 n4 c4, .slice a5 n5 c5] 33 (0, 0)) := (tq4.block _ (lt_heap BX3.out) (fun h => by have := LT4.out _ h; omega)).trans BX3.out
  have p4_3 := tq4.own p3_3 (fun y hy hyq => (List.nodup_append.1 HND.out).2.2 y hy y (List.mem_append_left _ hyq) rfl)
  have p4_4 := om4
  have p4_5 := tq4.own p3_5 (fun y hy hyq => (List.nodup_append.1 (List.nodup_append.1 HND.out).2.1).2.2 y hyq y (List.mem_append_left _ hy) rfl)
  have t4 := t3.trans (tq4.mono fun y hy => (List.mem_append_right _ (List.mem_append_left _ hy) : y ∈ F3 ++ (F4 ++ (F5 ++ ([])))))
  have y4_5 : w4.cell? ⟨w.heap.size, 5, none⟩ = some (.slice a5 n5 c5) := box_cell i4 rfl
  have BX4 : Hid (w4.heap[w.heap.size]? = some (.cells #[.int .i64 x0, .int .i64 x1, .int .i64 x2, .slice a3 n3 c3, .slice a4 n4 c4, .slice a5 n5 c5] 33 (0, 0))) := i4
  clear i4
  go_wp2_with fail
  refine (qc5.out _ p4_5).mono ?_
  rintro e w5 ⟨rfl, om5, tq5⟩
  have z5 := tq5.size
  have i5 : w5.heap[w.heap.size]? = some (.cells #[.int .i64 x0, .int .i64 x1, .int .i64 x2, .slice a3 n3 c3, .slice a4 n4 c4, .slice a5 n5 c5] 33 (0, 0)) := (tq5.block _ (lt_heap BX4.out) (fun h => by have := LT5.out _ h; omega)).trans BX4.out
  have p5_3 := tq5.own p4_3 (fun y hy hyq => (List.nodup_append.1 HND.out).2.2 y hy y (List.mem_append_right _ (List.mem_append_left _ hyq)) rfl)
  have p5_4 := tq5.own p4_4 (fun y hy hyq => (List.nodup_append.1 (List.nodup_append.1 HND.out).2.1).2.2 y hy y (List.mem_append_left _ hyq) rfl)
  have p5_5 := om5
  have t5 := t4.trans (tq5.mono fun y hy => (List.mem_append_right _ (List.mem_append_right _ (List.mem_append_left _ hy)) : y ∈ F3 ++ (F4 ++ (F5 ++ ([])))))
  have BX5 : Hid (w5.heap[w.heap.size]? = some (.cells #[.int .i64 x0, .int .i64 x1, .int .i64 x2, .slice a3 n3 c3, .slice a4 n4 c4, .slice a5 n5 c5] 33 (0, 0))) := i5
  clear i5
  have HT : Hid ((k5 : Int) = (((k + (C3 + C4 + C5) : Nat)) : Int)) := by have f3 := HK3.out; have f4 := HK4.out; have f5 := HK5.out; show _ = _; omega
  have v3 : Own (.sl shNode) w5 B [.slice a3 n3 c3] (Sh.mk (.sl shNode) d.2.2.2.1 (k)) F3 := by
    have hv := p5_3
    exact hv
  have v4 : Own (.sl shLink) w5 B [.slice a4 n4 c4] (Sh.mk (.sl shLink) d.2.2.2.2.1 (k + Sh.cnt (.sl shNode) d.2.2.2.1)) F4 := by
    have hv := p5_4
    rw [HK3.out, HC3.out] at hv
    exact hv
  have v5 : Own (.sl shTurn) w5 B [.slice a5 n5 c5] (Sh.mk (.sl shTurn) d.2.2.2.2.2.1 (k + Sh.cnt (.sl shNode) d.2.2.2.1 + Sh.cnt (.sl shLink) d.2.2.2.2.1)) F5 := by
    have hv := p5_5
    rw [HK4.out, HC4.out] at hv
    rw [HK3.out, HC3.out] at hv
    exact hv
  have hb : Own shDisk w5 B [.int .i64 (d.1), .int .i64 (d.2.1), .int .i64 (d.2.2.1), .slice a3 n3 c3, .slice a4 n4 c4, .slice a5 n5 c5] (shDisk.mkV d k) (F3 ++ (F4 ++ (F5 ++ ([])))) := own_Disk (w := w5) (B := B) (d := shDisk.mkV d k) v3 v4 v5
  rw [← HST.out.1, ← HST.out.2.1, ← HST.out.2.2.1] at hb
  have HB : Hid (Own shDisk w5 B [.int .i64 x0, .int .i64 x1, .int .i64 x2, .slice a3 n3 c3, .slice a4 n4 c4, .slice a5 n5 c5] (shDisk.mkV d k) (F3 ++ (F4 ++ (F5 ++ ([]))))) := hb
  clear hb v3 v4 v5 p5_3 p5_4 p5_5
  go_wp2
  go_ret
  exact ⟨by rw [← HT.out]; rfl, HB.out, t5⟩

set_option maxRecDepth 100000 in
set_option maxHeartbeats 2000000 in
theorem heldDisk_own (cs : List Value) (B k : Nat) (d : shDisk.D) (F : List Nat) (w : World) (ho : Own shDisk w B cs (shDisk.mkV d k) F) (hnd : F.Nodup) (hk0 : 1 ≤ k) (hk : k + shDisk.cntV d ≤ 1000000000000) :
    Calls Tryz.prog 15 #[.agg cs.toArray, .int .i64 k] w fun e w' => e = .returned (.int .i64 ((k + shDisk.cntV d : Nat) : Int)) ∧ Below w.heap.size w w' := by
  rw [cntV_Disk] at hk ⊢
  obtain ⟨a3, n3, c3, F3, a4, n4, c4, F4, a5, n5, c5, F5, rfl, rfl, o3, o4, o5⟩ := openO_Disk ho
  obtain ⟨x0, e0⟩ : ∃ x : Int, x = (shDisk.mkV d k).1 := ⟨_, rfl⟩
  obtain ⟨x1, e1⟩ : ∃ x : Int, x = (shDisk.mkV d k).2.1 := ⟨_, rfl⟩
  obtain ⟨x2, e2⟩ : ∃ x : Int, x = (shDisk.mkV d k).2.2.1 := ⟨_, rfl⟩
  obtain ⟨C3, hC3⟩ : ∃ C, C = Sh.cnt (.sl shNode) d.2.2.2.1 := ⟨_, rfl⟩
  obtain ⟨C4, hC4⟩ : ∃ C, C = Sh.cnt (.sl shLink) d.2.2.2.2.1 := ⟨_, rfl⟩
  obtain ⟨C5, hC5⟩ : ∃ C, C = Sh.cnt (.sl shTurn) d.2.2.2.2.2.1 := ⟨_, rfl⟩
  rw [← e0, ← e1, ← e2]
  rw [← hC3, ← hC4, ← hC5] at hk ⊢
  obtain ⟨k3, hk3⟩ : ∃ k' : Nat, k' = k + C3 := ⟨_, rfl⟩
  have ou3 : Own (.sl shNode) w B [.slice a3 n3 c3] (Sh.mk (.sl shNode) d.2.2.2.1 (k)) F3 := by
    have hv : Own (.sl shNode) w B [.slice a3 n3 c3] (Sh.mk (.sl shNode) d.2.2.2.1 (k)) F3 := o3
    exact hv
  have qc3 : Hid (∀ w' : World, Below w.heap.size w w' → Calls Tryz.prog 51 #[.slice a3 n3 c3, .int .i64 ((k : Int))] w' fun e w'' => e = .returned (.int .i64 (k3 : Int)) ∧ Below w'.heap.size w' w'') := fun w' h' => by rw [hk3, hC3]; exact heldNodeS_own a3 n3 c3 B (k) _ F3 w' (ou3.later h') ((List.nodup_append.1 hnd).1) (by omega) (by rw [← hC3]; omega)
  have nn3 : ¬ ((k3 : Int) < 0) := by omega
  have HK3 : Hid (k3 = k + C3) := hk3
  have HC3 : Hid (C3 = Sh.cnt (.sl shNode) d.2.2.2.1) := hC3
  obtain ⟨k4, hk4⟩ : ∃ k' : Nat, k' = (k3) + C4 := ⟨_, rfl⟩
  have ou4 : Own (.sl shLink) w B [.slice a4 n4 c4] (Sh.mk (.sl shLink) d.2.2.2.2.1 ((k3))) F4 := by
    have hv : Own (.sl shLink) w B [.slice a4 n4 c4] (Sh.mk (.sl shLink) d.2.2.2.2.1 (k + Sh.cnt (.sl shNode) d.2.2.2.1)) F4 := o4
    rw [show k + Sh.cnt (.sl shNode) d.2.2.2.1 = (k3) by have f3 := hk3; have g3 := hC3; omega] at hv
    exact hv
  have qc4 : Hid (∀ w' : World, Below w.heap.size w w' → Calls Tryz.prog 52 #[.slice a4 n4 c4, .int .i64 ((k3 : Int))] w' fun e w'' => e = .returned (.int .i64 (k4 : Int)) ∧ Below w'.heap.size w' w'') := fun w' h' => by rw [hk4, hC4]; exact heldLinkS_own a4 n4 c4 B ((k3)) _ F4 w' (ou4.later h') ((List.nodup_append.1 (List.nodup_append.1 hnd).2.1).1) (by omega) (by rw [← hC4]; omega)
  have nn4 : ¬ ((k4 : Int) < 0) := by omega
  have HK4 : Hid (k4 = (k3) + C4) := hk4
  have HC4 : Hid (C4 = Sh.cnt (.sl shLink) d.2.2.2.2.1) := hC4
  obtain ⟨k5, hk5⟩ : ∃ k' : Nat, k' = (k4) + C5 := ⟨_, rfl⟩
  have ou5 : Own (.sl shTurn) w B [.slice a5 n5 c5] (Sh.mk (.sl shTurn) d.2.2.2.2.2.1 ((k4))) F5 := by
    have hv : Own (.sl shTurn) w B [.slice a5 n5 c5] (Sh.mk (.sl shTurn) d.2.2.2.2.2.1 (k + Sh.cnt (.sl shNode) d.2.2.2.1 + Sh.cnt (.sl shLink) d.2.2.2.2.1)) F5 := o5
    rw [show k + Sh.cnt (.sl shNode) d.2.2.2.1 + Sh.cnt (.sl shLink) d.2.2.2.2.1 = (k4) by have f3 := hk3; have g3 := hC3; have f4 := hk4; have g4 := hC4; omega] at hv
    exact hv
  have qc5 : Hid (∀ w' : World, Below w.heap.size w w' → Calls Tryz.prog 53 #[.slice a5 n5 c5, .int .i64 ((k4 : Int))] w' fun e w'' => e = .returned (.int .i64 (k5 : Int)) ∧ Below w'.heap.size w' w'') := fun w' h' => by rw [hk5, hC5]; exact heldTurnS_own a5 n5 c5 B ((k4)) _ F5 w' (ou5.later h') ((List.nodup_append.1 (List.nodup_append.1 (List.nodup_append.1 hnd).2.1).2.1).1) (by omega) (by rw [← hC5]; omega)
  have nn5 : ¬ ((k5 : Int) < 0) := by omega
  have HK5 : Hid (k5 = (k4) + C5) := hk5
  have HC5 : Hid (C5 = Sh.cnt (.sl shTurn) d.2.2.2.2.2.1) := hC5
  obtain ⟨W0, hW0⟩ : ∃ W0, W0 = w.alloc (.cells #[.int .i64 x0, .int .i64 x1, .int .i64 x2, .slice a3 n3 c3, .slice a4 n4 c4, .slice a5 n5 c5] 33) := ⟨_, rfl⟩
  have bW0 : Below w.heap.size w W0 := by rw [hW0]; exact (Below.refl _ _).alloc (Nat.le_refl _) _
  have hbx : W0.heap[w.heap.size]? = some (.cells #[.int .i64 x0, .int .i64 x1, .int .i64 x2, .slice a3 n3 c3, .slice a4 n4 c4, .slice a5 n5 c5] 33 (0, 0)) := by rw [hW0]; exact heap_alloc_new w _
  have zW0 : W0.heap.size = w.heap.size + 1 := by rw [hW0]; simp
  have HW0 : Hid (W0 = w.alloc (.cells #[.int .i64 x0, .int .i64 x1, .int .i64 x2, .slice a3 n3 c3, .slice a4 n4 c4, .slice a5 n5 c5] 33)) := hW0
  have HBX : Hid (W0.heap[w.heap.size]? = some (.cells #[.int .i64 x0, .int .i64 x1, .int .i64 x2, .slice a3 n3 c3, .slice a4 n4 c4, .slice a5 n5 c5] 33 (0, 0))) := hbx
  clear ho hW0 hbx e0 e1 e2 hk3 hC3 o3 hk4 hC4 o4 hk5 hC5 o5 ou3 ou4 ou5
  go_enter Tryz.func15, Tryz.ntmps15
  go_wp2_with fail
  rw [← HW0.out]
  refine (qc3.out _ bW0).mono ?_
  rintro e w3 ⟨rfl, hb3⟩
  have b3 := bW0.trans (hb3.mono bW0.size)
  have z3 := hb3.size
  have i3 : w3.heap[w.heap.size]? = some (.cells #[.int .i64 x0, .int .i64 x1, .int .i64 x2, .slice a3 n3 c3, .slice a4 n4 c4, .slice a5 n5 c5] 33 (0, 0)) := (hb3.block _ (lt_heap HBX.out)).trans HBX.out
  clear hb3
  have y3_4 : w3.cell? ⟨w.heap.size, 4, none⟩ = some (.slice a4 n4 c4) := box_cell i3 rfl
  have y3_5 : w3.cell? ⟨w.heap.size, 5, none⟩ = some (.slice a5 n5 c5) := box_cell i3 rfl
  have BX3 : Hid (w3.heap[w.heap.size]? = some (.cells #[.int .i64 x0, .int .i64 x1, .int .i64 x2, .slice a3 n3 c3, .slice a4 n4 c4, .slice a5 n5 c5] 33 (0, 0))) := i3
  clear i3
  go_wp2_with fail
  refine (qc4.out _ b3).mono ?_
  rintro e w4 ⟨rfl, hb4⟩
  have b4 := b3.trans (hb4.mono b3.size)
  have z4 := hb4.size
  have i4 : w4.heap[w.heap.size]? = some (.cells #[.int .i64 x0, .int .i64 x1, .int .i64 x2, .slice a3 n3 c3, .slice a4 n4 c4, .slice a5 n5 c5] 33 (0, 0)) := (hb4.block _ (lt_heap BX3.out)).trans BX3.out
  clear hb4
  have y4_5 : w4.cell? ⟨w.heap.size, 5, none⟩ = some (.slice a5 n5 c5) := box_cell i4 rfl
  have BX4 : Hid (w4.heap[w.heap.size]? = some (.cells #[.int .i64 x0, .int .i64 x1, .int .i64 x2, .slice a3 n3 c3, .slice a4 n4 c4, .slice a5 n5 c5] 33 (0, 0))) := i4
  clear i4
  go_wp2_with fail
  refine (qc5.out _ b4).mono ?_
  rintro e w5 ⟨rfl, hb5⟩
  have b5 := b4.trans (hb5.mono b4.size)
  have z5 := hb5.size
  have i5 : w5.heap[w.heap.size]? = some (.cells #[.int .i64 x0, .int .i64 x1, .int .i64 x2, .slice a3 n3 c3, .slice a4 n4 c4, .slice a5 n5 c5] 33 (0, 0)) := (hb5.block _ (lt_heap BX4.out)).trans BX4.out
  clear hb5
  have BX5 : Hid (w5.heap[w.heap.size]? = some (.cells #[.int .i64 x0, .int .i64 x1, .int .i64 x2, .slice a3 n3 c3, .slice a4 n4 c4, .slice a5 n5 c5] 33 (0, 0))) := i5
  clear i5
  have HT : Hid ((k5 : Int) = (((k + (C3 + C4 + C5) : Nat)) : Int)) := by have f3 := HK3.out; have f4 := HK4.out; have f5 := HK5.out; show _ = _; omega
  go_wp2
  go_ret
  exact ⟨by rw [← HT.out]; rfl, b5⟩

end Go.Proofs.YtkaegbhmeonjfaaGreat

/- ReadS: The model's l03Dir, DiskDir, l03At. -/
namespace Go.Proofs.YtkaegbhmeonjfaaGreat
open Go.RowKit
set_option linter.unusedVariables false
set_option maxRecDepth 100000

theorem dirL_small {l : List LinkD} {ts : List TurnD} (h : SmallS l) (ht : ∀ t ∈ ts, t.2.1.size ≤ maxLen ∧ t.2.2.1.size ≤ maxLen) : SmallS (dirL l ts) := by
  induction ts generalizing l with
  | nil => exact h
  | cons t ts ih =>
    have h1 := ht t List.mem_cons_self
    show SmallS (dirL (turnL l t) ts)
    refine ih ?_ (fun u hu => ht u (List.mem_cons_of_mem _ hu))
    unfold turnL
    split
    · exact withL_small h h1.1 _
    · split
      · exact withL_small (lessL_small (lessL_small h _) _) h1.2 _
      · exact lessL_small h _

theorem turns_small {w : World} {a : Option Addr} {n cap : Nat} {l : List TurnD} (h : Reads (.sl shTurn) w [.slice a n cap] l) : ∀ t ∈ l, t.2.1.size ≤ maxLen ∧ t.2.2.1.size ≤ maxLen := by
  intro t ht
  obtain ⟨i, hi, rfl⟩ := List.mem_iff_getElem.1 ht
  have hl : List.length (α := TurnD) l = n := (reads_len h).1
  obtain ⟨b, off, c, x, _, _, hx, hr, _⟩ := reads_elem h i (by omega)
  obtain ⟨_, hxe⟩ := at_some' hx
  obtain ⟨_, h1, h2⟩ := open_Turn hr
  subst hxe
  exact ⟨h1, h2⟩

set_option maxRecDepth 100000 in
set_option maxHeartbeats 4000000 in
theorem specDirTo_ok (cs : List Value) (d : shDisk.D) (N B : Nat) (G : List Nat) (w : World) (ho : Own shDisk w B cs d G) (hs : shDisk.sz d ≤ 1048576) (hN : N ≤ List.length (α := TurnD) d.2.2.2.2.2.1) (hbig : List.length (α := LinkD) d.2.2.2.2.1 + List.length (α := TurnD) d.2.2.2.2.2.1 ≤ 1000000) :
    Calls Tryz.prog 33 #[.agg cs.toArray, .int .i64 N] w fun e w' => ∃ v F, e = .returned v ∧ Own (.sl shLink) w' w.heap.size [v] (dirL d.2.2.2.2.1 (List.take (α := TurnD) N d.2.2.2.2.2.1)) F ∧ F.Nodup ∧ Below w.heap.size w w' := by
  obtain ⟨i0, hi, hz0, hz1, hz2⟩ := info_parts infoLink
  obtain ⟨a3, n3, c3, F3, a4, n4, c4, F4, a5, n5, c5, F5, rfl, _, o3, o4, o5⟩ := openO_Disk ho
  obtain ⟨x0, e0⟩ : ∃ x : Int, x = d.1 := ⟨_, rfl⟩
  obtain ⟨x1, e1⟩ : ∃ x : Int, x = d.2.1 := ⟨_, rfl⟩
  obtain ⟨x2, e2⟩ : ∃ x : Int, x = d.2.2.1 := ⟨_, rfl⟩
  rw [sz_Disk] at hs
  obtain ⟨kp, hkp⟩ : ∃ l : List LinkD, l = d.2.2.2.2.1 := ⟨_, rfl⟩
  obtain ⟨tn, htn⟩ : ∃ l : List TurnD, l = d.2.2.2.2.2.1 := ⟨_, rfl⟩
  have l4 : kp.length = n4 := by rw [hkp]; exact (reads_len o4.reads).1
  have l5 : tn.length = n5 := by rw [htn]; exact (reads_len o5.reads).1
  have s4 : n4 ≤ Sh.sz (.sl shLink) d.2.2.2.2.1 := by rw [← l4, hkp]; exact Nat.le_add_right _ _
  have s5 : n5 ≤ Sh.sz (.sl shTurn) d.2.2.2.2.2.1 := by rw [← l5, htn]; exact Nat.le_add_right _ _
  have hn45 : n4 + n5 ≤ 1048576 := by omega
  rw [← hkp] at o4 ⊢
  rw [← htn] at o5 hN ⊢
  rw [← hkp, ← htn] at hbig
  rw [← e0, ← e1, ← e2]
  have hN5 : N ≤ n5 := by omega
  have hbig' : n4 + n5 ≤ 1000000 := by omega
  clear hbig
  have HR : Hid (Own (.sl shLink) w B [.slice a4 n4 c4] kp F4 ∧ Reads (.sl shTurn) w [.slice a5 n5 c5] tn) := ⟨o4, o5.reads⟩
  have HL : Hid (kp.length = n4 ∧ tn.length = n5 ∧ SmallS kp) := ⟨l4, l5, reads_small o4.reads⟩
  obtain ⟨W0, hW0⟩ : ∃ W0, W0 = w.alloc (.cells #[.int .i64 x0, .int .i64 x1, .int .i64 x2, .slice a3 n3 c3, .slice a4 n4 c4, .slice a5 n5 c5] 33) := ⟨_, rfl⟩
  have bW0 : Below w.heap.size w W0 := by rw [hW0]; exact (Below.refl _ _).alloc (Nat.le_refl _) _
  have hbox : W0.heap[w.heap.size]? = some (.cells #[.int .i64 x0, .int .i64 x1, .int .i64 x2, .slice a3 n3 c3, .slice a4 n4 c4, .slice a5 n5 c5] 33 (0, 0)) := by rw [hW0]; exact heap_alloc_new w _
  have zW0 : W0.heap.size = w.heap.size + 1 := by rw [hW0]; simp
  have HW0 : Hid (W0 = w.alloc (.cells #[.int .i64 x0, .int .i64 x1, .int .i64 x2, .slice a3 n3 c3, .slice a4 n4 c4, .slice a5 n5 c5] 33)) := hW0
  have BX : Hid (∀ w', Below W0.heap.size W0 w' → w'.cell? ⟨w.heap.size, 5, none⟩ = some (.slice a5 n5 c5)) := fun w' h' => box_cell ((h'.block _ (by omega)).trans hbox) rfl
  have bA0 : Below w.heap.size w (W0.alloc (.cells #[] 111)) := bW0.alloc bW0.size _
  have k1 := World.ownsRow_lit (base := W0.heap.size) (e := 111) (size := 2) W0 #[] 0 (Nat.le_refl _) (Nat.zero_le _) rfl
  have k2 : (cellsL kp).length = n4 * 2 := by rw [cellsL_len, l4]
  have k3 : Src (W0.alloc (.cells #[] 111)) (.slice a4 n4 c4) n4 (cellsL kp) := by
    have h1 := HR.out.1.keep (w' := W0.alloc (.cells #[] 111)) (fun g hg => bA0.block g (HR.out.1.lt g hg).2)
    have h2 := src_links h1
    rw [l4] at h2; exact h2
  have k4 : 0 + n4 ≤ maxLen := by unfold maxLen; omega
  have k5 : W0.heap.size ≤ (W0.alloc (.cells #[] 111)).heap.size := by simp
  have K : Hid (_ ∧ _ ∧ _ ∧ _) := ⟨k2, k3, k4, k5⟩
  have KO : Hid ((W0.alloc (.cells #[] 111)).ownsRow W0.heap.size 111 2 (.slice (some ⟨w.heap.size + 1, 0, none⟩) 0 0) 0 []) := by
    show World.ownsRow _ _ _ _ _ _ _
    have := k1; rw [zW0] at this ⊢; exact this
  have ZW0 : Hid (W0.heap.size = w.heap.size + 1) := zW0
  clear ho hs o3 o4 o5 e0 e1 e2 hkp htn l4 l5 s4 s5 hW0 hbox zW0 k1 k2 k3 k4 k5 bA0
  go_enter Tryz.func33, Tryz.ntmps33
  go_wp2_with (at_builtin; rw [← HW0.out]; refine wpList_append_src rfl _ _ 30 rfl W0.heap.size 111 i0 (.agg #[.string ByteArray.empty, .int .i64 0]) 2 24 Tryz.underlying30 hi hz0 hz1 hz2 rfl (by decide) _ 0 [] rfl KO.out (.slice a4 n4 c4) n4 (cellsL kp) rfl K.out.1 K.out.2.1 (cellsL_one _) K.out.2.2.1 (by omega) K.out.2.2.2 ?_)
  intro v1 w1 hown1 hgrow1
  have b1 : Below W0.heap.size W0 w1 := ((Below.refl _ _).alloc (Nat.le_refl _) _).grown hgrow1 (by simp) (fun k h => by simp [Value.ownBlock] at h; have := ZW0.out; omega)
  have hown1' : w1.ownsRow W0.heap.size 111 2 v1 n4 (cellsL kp) := by simpa using hown1
  obtain ⟨F1, p1, nd1, a1, c1, rfl⟩ := own_linksV HL.out.1 HL.out.2.2 hown1'
  clear hgrow1 hown1 hown1' K KO
  go_wp2
  go_loopw [5, 6] (fun dv i wr => ∃ (k m : Nat) (a : Option Addr) (c : Nat) (F : List Nat), k ≤ N ∧ dv = .slice a m c ∧ i = .int .i64 k ∧ Below W0.heap.size W0 wr ∧ Hid (Own (.sl shLink) wr W0.heap.size [.slice a m c] (dirL kp (tn.take k)) F ∧ F.Nodup) ∧ m ≤ n4 + k) (fun _ i _ => N - (intOf i).toNat)
  case atStart => exact ⟨0, n4, a1, c1, F1, Nat.zero_le _, rfl, rfl, b1, ⟨p1, nd1⟩, by omega⟩
  case round =>
    obtain ⟨k, m, a, c, F, hk, rfl, rfl, hbel, hx0, hmk⟩ := hrel
    have hbs := hbel.size
    by_cases hlt : k < N
    · obtain ⟨b, off, cc, x, rfl, hb, hx, hrx, hcell⟩ := reads_elem HR.out.2 k (by omega)
      obtain ⟨rfl, hl1, hl2⟩ := open_Turn hrx
      obtain ⟨hkd, hxe⟩ := at_some' hx
      obtain ⟨y0, ey0⟩ : ∃ y : Int, y = x.1 := ⟨_, rfl⟩
      obtain ⟨y1, ey1⟩ : ∃ y : ByteArray, y = x.2.1 := ⟨_, rfl⟩
      obtain ⟨y2, ey2⟩ : ∃ y : ByteArray, y = x.2.2.1 := ⟨_, rfl⟩
      obtain ⟨y3, ey3⟩ : ∃ y : Int, y = x.2.2.2.1 := ⟨_, rfl⟩
      have hxv : x = (y0, y1, y2, y3, ()) := by rw [ey0, ey1, ey2, ey3]; rfl
      have bw := bW0.trans (hbel.mono bW0.size)
      have f5 := BX.out wr hbel
      have g0 : wr.cell? ⟨b, off + k * 4, none⟩ = some (.int .i64 y0) := by rw [ey0]; exact (bw.cell (p := ⟨b, off + (k * 4 + 0), none⟩) hb).trans (hcell 0 (by decide))
      have g1 : wr.cell? ⟨b, off + k * 4 + 1, none⟩ = some (.string y1) := by rw [ey1]; exact (bw.cell (p := ⟨b, off + (k * 4 + 1), none⟩) hb).trans (hcell 1 (by decide))
      have g2 : wr.cell? ⟨b, off + k * 4 + 2, none⟩ = some (.string y2) := by rw [ey2]; exact (bw.cell (p := ⟨b, off + (k * 4 + 2), none⟩) hb).trans (hcell 2 (by decide))
      have g3 : wr.cell? ⟨b, off + k * 4 + 3, none⟩ = some (.int .i64 y3) := by rw [ey3]; exact (bw.cell (p := ⟨b, off + (k * 4 + 3), none⟩) hb).trans (hcell 3 (by decide))
      rw [← ey1] at hl1
      rw [← ey2] at hl2
      have HT : Hid (tn.take (k + 1) = tn.take k ++ [(y0, y1, y2, y3, ())]) := take_snocT tn k hkd _ (hxe.trans hxv)
      have hk5 : (k : Int) < (n5 : Int) := by omega
      have qM : Hid (Calls Tryz.prog 78 #[.slice a m c, .agg #[.int .i64 y0, .string y1, .string y2, .int .i64 y3]] wr fun e w'' => ∃ g c, e = .returned (.slice (some ⟨g, 0, none⟩) (turnL (dirL kp (tn.take k)) (y0, y1, y2, y3, ())).length c) ∧
          Own (.sl shLink) w'' wr.heap.size [.slice (some ⟨g, 0, none⟩) (turnL (dirL kp (tn.take k)) (y0, y1, y2, y3, ())).length c] (turnL (dirL kp (tn.take k)) (y0, y1, y2, y3, ())) [g] ∧ Below wr.heap.size wr w'') :=
        specTurn_any a m c _ y0 y1 y2 y3 wr hx0.out.1.reads hl1 hl2 (by omega)
      clear hcell hrx hx hxe hxv ey0 ey1 ey2 ey3 hl1 hl2
      go_wp2_with fail
      refine qM.out.mono ?_
      rintro e w7 ⟨g7, c7, rfl, o7, hb7⟩
      have b7 := hbel.trans (hb7.mono hbel.size)
      rw [← dirL_snoc, ← HT.out] at o7 ⊢
      obtain ⟨m7, hm7⟩ : ∃ m7, m7 = (dirL kp (tn.take (k + 1))).length := ⟨_, rfl⟩
      have hm7k : m7 ≤ n4 + (k + 1) := by
        have h1 := dirL_len kp (tn.take (k + 1))
        have h2 := HL.out.1
        have h3 : (tn.take (k + 1)).length ≤ k + 1 := by rw [List.length_take]; omega
        omega
      rw [← hm7] at o7 ⊢
      have HX2 : Hid (Own (.sl shLink) w7 W0.heap.size [.slice (some ⟨g7, 0, none⟩) m7 c7] (dirL kp (tn.take (k + 1))) [g7] ∧ [g7].Nodup) := ⟨o7.base hbs, by simp⟩
      clear hb7 o7 hm7 hx0 g0 g1 g2 g3 f5
      go_wp2
      go_roundw
      case rel => exact ⟨k + 1, m7, some ⟨g7, 0, none⟩, c7, [g7], by omega, rfl, by go_num, b7, HX2, hm7k⟩
      case measure => simp [intOf]; omega
    · have e : k = N := by omega
      subst e
      have HX2 : Hid (Own (.sl shLink) wr w.heap.size [.slice a m c] (dirL kp (tn.take k)) F ∧ F.Nodup) := ⟨hx0.out.1.base bW0.size, hx0.out.2⟩
      have bw := bW0.trans (hbel.mono bW0.size)
      clear hx0
      go_wp2
      go_ret
      exact ⟨_, F, rfl, HX2.out.1, HX2.out.2, bw⟩

set_option maxRecDepth 100000 in
set_option maxHeartbeats 2000000 in
theorem specDir_yes (cs : List Value) (d : shDisk.D) (B : Nat) (G : List Nat) (w : World) (ho : Own shDisk w B cs d G) (hs : shDisk.sz d ≤ 1048576) (hok : specOkP d) :
    Calls Tryz.prog 59 #[.agg cs.toArray] w fun e w' => ∃ v F, e = .returned v ∧ Own (.sl shLink) w' w.heap.size [v] (dirL d.2.2.2.2.1 d.2.2.2.2.2.1) F ∧ F.Nodup ∧ Below w.heap.size w w' := by
  obtain ⟨a3, n3, c3, F3, a4, n4, c4, F4, a5, n5, c5, F5, rfl, _, o3, o4, o5⟩ := openO_Disk ho
  have l5 : List.length (α := TurnD) d.2.2.2.2.2.1 = n5 := (reads_len o5.reads).1
  have l5m : n5 ≤ c5 ∧ c5 ≤ maxLen := (reads_len o5.reads).2
  unfold maxLen at l5m
  obtain ⟨x0, e0⟩ : ∃ x : Int, x = d.1 := ⟨_, rfl⟩
  obtain ⟨x1, e1⟩ : ∃ x : Int, x = d.2.1 := ⟨_, rfl⟩
  obtain ⟨x2, e2⟩ : ∃ x : Int, x = d.2.2.1 := ⟨_, rfl⟩
  have qok : Hid (∀ w', Below w.heap.size w w' → Calls Tryz.prog 31 #[.agg #[.int .i64 x0, .int .i64 x1, .int .i64 x2, .slice a3 n3 c3, .slice a4 n4 c4, .slice a5 n5 c5]] w' fun e w'' => e = .returned (.bool true) ∧ Below w'.heap.size w' w'') := fun w' h' => by
    rw [e0, e1, e2]; exact specOk_ok true _ d w' (fun _ => rfl) (fun h => absurd hok h) (ho.reads.later h') hs
  have qdir : Hid (∀ w', Below w.heap.size w w' → Calls Tryz.prog 33 #[.agg #[.int .i64 x0, .int .i64 x1, .int .i64 x2, .slice a3 n3 c3, .slice a4 n4 c4, .slice a5 n5 c5], .int .i64 n5] w' fun e w'' => ∃ v F, e = .returned v ∧ Own (.sl shLink) w'' w'.heap.size [v] (dirL d.2.2.2.2.1 d.2.2.2.2.2.1) F ∧ F.Nodup ∧ Below w'.heap.size w' w'') := fun w' h' => by
    have h9 : List.take (α := TurnD) n5 d.2.2.2.2.2.1 = d.2.2.2.2.2.1 := List.take_of_length_le (by omega)
    have h8 := hok.1
    have h10 : List.length (α := LinkD) d.2.2.2.2.1 ≤ 8 := h8.2.2.2.2.2.2.2.1
    have h11 : List.length (α := TurnD) d.2.2.2.2.2.1 ≤ 40 := h8.2.2.2.2.2.2.2.2
    have := specDirTo_ok _ d n5 B G w' (ho.later h') hs (by omega) (by omega)
    rw [h9] at this
    rw [e0, e1, e2]; exact this
  rw [← e0, ← e1, ← e2]
  obtain ⟨W0, hW0⟩ : ∃ W0, W0 = w.alloc (.cells #[.int .i64 x0, .int .i64 x1, .int .i64 x2, .slice a3 n3 c3, .slice a4 n4 c4, .slice a5 n5 c5] 33) := ⟨_, rfl⟩
  have bW0 : Below w.heap.size w W0 := by rw [hW0]; exact (Below.refl _ _).alloc (Nat.le_refl _) _
  have hbox : W0.heap[w.heap.size]? = some (.cells #[.int .i64 x0, .int .i64 x1, .int .i64 x2, .slice a3 n3 c3, .slice a4 n4 c4, .slice a5 n5 c5] 33 (0, 0)) := by rw [hW0]; exact heap_alloc_new w _
  have zW0 : W0.heap.size = w.heap.size + 1 := by rw [hW0]; simp
  have HW0 : Hid (W0 = w.alloc (.cells #[.int .i64 x0, .int .i64 x1, .int .i64 x2, .slice a3 n3 c3, .slice a4 n4 c4, .slice a5 n5 c5] 33)) := hW0
  have BX : Hid (∀ w', Below W0.heap.size W0 w' → w'.heap[w.heap.size]? = some (.cells #[.int .i64 x0, .int .i64 x1, .int .i64 x2, .slice a3 n3 c3, .slice a4 n4 c4, .slice a5 n5 c5] 33 (0, 0))) := fun w' h' => (h'.block _ (by omega)).trans hbox
  clear ho hs o3 o4 o5 e0 e1 e2 hW0 hbox hok
  go_enter Tryz.func59, Tryz.ntmps59
  go_wp2_with fail
  rw [← HW0.out]
  refine (qok.out _ bW0).mono ?_
  rintro e w1 ⟨rfl, hb1⟩
  have i1 := BX.out w1 hb1
  have b1 := bW0.trans (hb1.mono bW0.size)
  have y0 := box_cell (j := 0) i1 rfl
  have y1 := box_cell (j := 1) i1 rfl
  have y2 := box_cell (j := 2) i1 rfl
  have y3 := box_cell (j := 3) i1 rfl
  have y4 := box_cell (j := 4) i1 rfl
  have y5 := box_cell (j := 5) i1 rfl
  clear i1 hb1
  go_wp2_with fail
  refine (qdir.out _ b1).mono ?_
  rintro e w2 ⟨v, F, rfl, p, nd, hb2⟩
  have b2 := b1.trans (hb2.mono b1.size)
  have p2 := p.base b1.size
  go_wp2
  go_ret
  exact ⟨v, F, rfl, p2, nd, b2⟩

set_option maxRecDepth 100000 in
set_option maxHeartbeats 2000000 in
theorem specDir_no (cs : List Value) (d : shDisk.D) (w : World) (hr : Reads shDisk w cs d) (hs : shDisk.sz d ≤ 1048576) (hok : ¬ specOkP d) :
    Calls Tryz.prog 59 #[.agg cs.toArray] w fun e w' => e = .returned (.slice none 0 0) ∧ Below w.heap.size w w' := by
  obtain ⟨a3, n3, c3, a4, n4, c4, a5, n5, c5, rfl, r3, r4, r5⟩ := open_Disk hr
  obtain ⟨x0, e0⟩ : ∃ x : Int, x = d.1 := ⟨_, rfl⟩
  obtain ⟨x1, e1⟩ : ∃ x : Int, x = d.2.1 := ⟨_, rfl⟩
  obtain ⟨x2, e2⟩ : ∃ x : Int, x = d.2.2.1 := ⟨_, rfl⟩
  have qok : Hid (∀ w', Below w.heap.size w w' → Calls Tryz.prog 31 #[.agg #[.int .i64 x0, .int .i64 x1, .int .i64 x2, .slice a3 n3 c3, .slice a4 n4 c4, .slice a5 n5 c5]] w' fun e w'' => e = .returned (.bool false) ∧ Below w'.heap.size w' w'') := fun w' h' => by
    rw [e0, e1, e2]; exact specOk_ok false _ d w' (fun h => absurd h hok) (fun _ => rfl) (hr.later h') hs
  rw [← e0, ← e1, ← e2]
  have bW0 : Below w.heap.size w (w.alloc (.cells #[.int .i64 x0, .int .i64 x1, .int .i64 x2, .slice a3 n3 c3, .slice a4 n4 c4, .slice a5 n5 c5] 33)) := (Below.refl _ _).alloc (Nat.le_refl _) _
  clear hr hs r3 r4 r5 e0 e1 e2 hok
  go_enter Tryz.func59, Tryz.ntmps59
  go_wp2_with fail
  refine (qok.out _ bW0).mono ?_
  rintro e w1 ⟨rfl, hb1⟩
  have b1 := bW0.trans (hb1.mono bW0.size)
  clear hb1
  go_wp2
  go_ret
  exact ⟨rfl, b1⟩

/-- The first node of an id. -/
def placeN (l : List NodeD) (id : Int) : Nat := l.findIdx fun x => decide (x.1 = id)

theorem placeN_le (l : List NodeD) (id : Int) : placeN l id ≤ l.length := List.findIdx_le_length

theorem placeN_ne {l : List NodeD} {id : Int} {k : Nat} (h : k < placeN l id) (hk : k < l.length) : (l[k]).1 ≠ id := by
  have := List.not_of_lt_findIdx h
  simpa using this

theorem placeN_at {l : List NodeD} {id : Int} (h : placeN l id < l.length) : (l[placeN l id]).1 = id := by
  have := List.findIdx_getElem (xs := l) (p := fun x : NodeD => decide (x.1 = id)) (w := h)
  exact of_decide_eq_true this

set_option maxRecDepth 100000 in
set_option maxHeartbeats 2000000 in
theorem specAt_ok (cs : List Value) (d : shDisk.D) (id : Int) (w : World) (hr : Reads shDisk w cs d) (hs : shDisk.sz d ≤ 1048576) (hin : placeN d.2.2.2.1 id < List.length (α := NodeD) d.2.2.2.1) :
    Calls Tryz.prog 57 #[.agg cs.toArray, .int .i64 id] w fun e w' => e = .returned (.int .i64 (placeN d.2.2.2.1 id)) ∧ Below w.heap.size w w' := by
  obtain ⟨a3, n3, c3, a4, n4, c4, a5, n5, c5, rfl, r3, r4, r5⟩ := open_Disk hr
  obtain ⟨x0, e0⟩ : ∃ x : Int, x = d.1 := ⟨_, rfl⟩
  obtain ⟨x1, e1⟩ : ∃ x : Int, x = d.2.1 := ⟨_, rfl⟩
  obtain ⟨x2, e2⟩ : ∃ x : Int, x = d.2.2.1 := ⟨_, rfl⟩
  obtain ⟨nd, hnd⟩ : ∃ l : List NodeD, l = d.2.2.2.1 := ⟨_, rfl⟩
  rw [← hnd] at r3 hin ⊢
  rw [← e0, ← e1, ← e2]
  have l3 : nd.length = n3 := (reads_len r3).1
  have l3m : n3 ≤ c3 ∧ c3 ≤ maxLen := (reads_len r3).2
  unfold maxLen at l3m
  obtain ⟨Q, hQ⟩ : ∃ Q, Q = placeN nd id := ⟨_, rfl⟩
  have HNE : Hid (∀ k (hk : k < nd.length), k < Q → (nd[k]).1 ≠ id) := fun k hk h => placeN_ne (by omega) hk
  have HEQ : Hid (∀ hk : Q < nd.length, (nd[Q]).1 = id) := fun hk => by subst hQ; exact placeN_at hk
  have HR : Hid (Reads (.sl shNode) w [.slice a3 n3 c3] nd) := r3
  have HL : Hid (nd.length = n3) := l3
  rw [← hQ] at hin ⊢
  have hQn : Q < n3 := by omega
  have bW0 : Below w.heap.size w (w.alloc (.cells #[.int .i64 x0, .int .i64 x1, .int .i64 x2, .slice a3 n3 c3, .slice a4 n4 c4, .slice a5 n5 c5] 33)) := (Below.refl _ _).alloc (Nat.le_refl _) _
  clear hr hs r3 r4 r5 e0 e1 e2 hQ hin hnd l3
  go_enter Tryz.func57, Tryz.ntmps57
  go_wp2
  go_loopw [10] (fun i wr => ∃ k : Nat, k ≤ Q ∧ i = .int .i64 k ∧ Below w.heap.size w wr) (fun i _ => n3 - (intOf i).toNat)
  case atStart => exact ⟨0, Nat.zero_le _, rfl, bW0⟩
  case round =>
    obtain ⟨k, hk, rfl, hbel⟩ := hrel
    have hbs := hbel.size
    obtain ⟨b, off, cc, x, rfl, hb, hx, hrx, hcell⟩ := reads_elem HR.out k (by omega)
    obtain ⟨p1, m1, k1, p2, m2, k2, rfl, _, _⟩ := open_Node hrx
    obtain ⟨hkd, hxe⟩ := at_some' hx
    obtain ⟨y0, ey0⟩ : ∃ y : Int, y = x.1 := ⟨_, rfl⟩
    have hy : (nd[k]'hkd).1 = y0 := by rw [ey0]; exact congrArg Prod.fst hxe
    have g0 : wr.cell? ⟨b, off + k * 3, none⟩ = some (.int .i64 y0) := by rw [ey0]; exact (hbel.cell (p := ⟨b, off + (k * 3 + 0), none⟩) hb).trans (hcell 0 (by decide))
    have g1 : wr.cell? ⟨b, off + k * 3 + 1, none⟩ = some (.slice p1 m1 k1) := (hbel.cell (p := ⟨b, off + (k * 3 + 1), none⟩) hb).trans (hcell 1 (by decide))
    have g2 : wr.cell? ⟨b, off + k * 3 + 2, none⟩ = some (.slice p2 m2 k2) := (hbel.cell (p := ⟨b, off + (k * 3 + 2), none⟩) hb).trans (hcell 2 (by decide))
    have bA : Below w.heap.size w (wr.alloc (.cells #[.int .i64 y0, .slice p1 m1 k1, .slice p2 m2 k2] 70)) := hbel.alloc hbs _
    have hkn : (k : Int) < (n3 : Int) := by omega
    by_cases hlt : k < Q
    · have hne : (y0 == id) = false := by have := HNE.out k hkd hlt; rw [hy] at this; simpa using this
      clear hcell hrx hx hxe ey0 hy
      go_wp2
      go_roundw
      case rel => exact ⟨k + 1, by omega, by go_num, bA⟩
      case measure => simp [intOf]; omega
    · have e : k = Q := by omega
      subst e
      have hne : (y0 == id) = true := by have := HEQ.out hkd; rw [hy] at this; simpa using this
      clear hcell hrx hx hxe ey0 hy
      go_wp2
      go_ret
      exact ⟨rfl, bA⟩

end Go.Proofs.YtkaegbhmeonjfaaGreat

/- ReadP: Plain facts on the directory behind all turns: its ids have their nodes; where a node lies. -/
namespace Go.Proofs.YtkaegbhmeonjfaaGreat
open Go.RowKit
set_option linter.unusedVariables false
set_option maxRecDepth 100000

theorem mem_less {l : List LinkD} {s : ByteArray} {x : LinkD} (h : x ∈ lessL l s) : x ∈ l := by
  unfold lessL at h
  exact (List.mem_filter.1 h).1

theorem findL_mem {l : List LinkD} {s : ByteArray} (h : hasL l s = true) : ∃ x ∈ l, x.1 = s ∧ x.2.1 = findL l s := by
  induction l with
  | nil => simp [hasL_nil] at h
  | cons a l ih =>
    rw [hasL_cons] at h
    rw [findL_cons]
    by_cases e : a.1 = s
    · exact ⟨a, List.mem_cons_self, e, by rw [if_pos e]⟩
    · simp [e] at h
      obtain ⟨x, hx, h1, h2⟩ := ih h
      exact ⟨x, List.mem_cons_of_mem _ hx, h1, by rw [if_neg e]; exact h2⟩

/-- Every link behind turns that fit has an id of the list S, if those of the links and of the creates are in it. -/
theorem dir_ids (S : List Int) : ∀ (ts : List TurnD) (l : List LinkD), Pos l → turnsOkL l ts → (∀ x ∈ l, x.2.1 ∈ S) → (∀ t ∈ ts, t.1 = 1 → t.2.2.2.1 ∈ S) → (∀ x ∈ dirL l ts, x.2.1 ∈ S) ∧ Pos (dirL l ts)
  | [], l, hp, _, h1, _ => ⟨h1, hp⟩
  | t :: ts, l, hp, hk, h1, h2 => by
    obtain ⟨k1, k2⟩ := hk
    have hp2 := (turn_alike (Alike.refl l) hp k1).2
    refine dir_ids S ts (turnL l t) hp2 k2 ?_ (fun u hu => h2 u (List.mem_cons_of_mem _ hu))
    intro x hx
    unfold turnL at hx
    by_cases e1 : t.1 = 1
    · rw [if_pos e1] at hx
      rcases mem_with hx with rfl | hx
      · exact h2 t List.mem_cons_self e1
      · exact h1 x hx
    · rw [if_neg e1] at hx
      by_cases e5 : t.1 = 5
      · simp only [e5, if_true] at hx
        rcases mem_with hx with rfl | hx
        · have hth : hasL l t.2.1 = true := (findL_pos hp _).2 (by
            rcases k1.2 with h | h | h
            · have := h.1; omega
            · exact h.2.2.2.2
            · have := h.1; omega)
          obtain ⟨y, hy, _, hy2⟩ := findL_mem hth
          show findL l t.2.1 ∈ S
          rw [← hy2]; exact h1 y hy
        · exact h1 x (mem_less (mem_less hx))
      · rw [if_neg e5] at hx
        exact h1 x (mem_less hx)

theorem kept_pos {kp : List LinkD} (h : keptTo kp kp.length) : Pos kp := by
  intro x hx
  obtain ⟨i, hi, rfl⟩ := List.mem_iff_getElem.1 hx
  have := (h i hi hi).2.1
  omega

theorem place_mem {l : List NodeD} {id : Int} (h : id ∈ nodeIds l) : placeN l id < l.length := by
  unfold placeN
  rw [List.findIdx_lt_length]
  unfold nodeIds at h
  obtain ⟨x, hx, e⟩ := List.mem_map.1 h
  exact ⟨x, hx, by simpa using e⟩

/-- What a right disk says of its directory: it is alike to the program's map, its ids have their nodes. -/
theorem dir_alike {d : shDisk.D} (h : specOkP d) : Alike (dirL d.2.2.2.2.1 d.2.2.2.2.2.1) (dirF (List.reverse (α := LinkD) d.2.2.2.2.1) d.2.2.2.2.2.1) ∧ Pos (dirL d.2.2.2.2.1 d.2.2.2.2.2.1) ∧
    ∀ x ∈ dirL d.2.2.2.2.1 d.2.2.2.2.2.1, placeN d.2.2.2.1 x.2.1 < List.length (α := NodeD) d.2.2.2.1 := by
  obtain ⟨h1, h2, h3, h4, h5, h6, h7⟩ := h
  obtain ⟨nd, hnd⟩ : ∃ l : List NodeD, l = d.2.2.2.1 := ⟨_, rfl⟩
  obtain ⟨kp, hkp⟩ : ∃ l : List LinkD, l = d.2.2.2.2.1 := ⟨_, rfl⟩
  obtain ⟨tn, htn⟩ : ∃ l : List TurnD, l = d.2.2.2.2.2.1 := ⟨_, rfl⟩
  rw [← hkp, ← htn] at h4 h5 h6 ⊢
  rw [← hkp] at h3
  rw [← hnd] at h4 h5 ⊢
  have hp := kept_pos h3
  have hn : namesTo kp kp.length := fun i hi hk => ⟨(h3 i hi hk).1, (h3 i hi hk).2.2⟩
  have ha := alike_rev hn
  have hal : ∀ (ts : List TurnD) (l m : List LinkD), Alike l m → Pos l → turnsOkL l ts → Alike (dirL l ts) (dirF m ts) := by
    intro ts
    induction ts with
    | nil => intro l m h _ _; exact h
    | cons t ts ih =>
      intro l m hlm hpl hk
      have h8 := turn_alike hlm hpl hk.1
      exact ih (turnL l t) (turnI m t) h8.1 h8.2 hk.2
  have hd := dir_ids (idsL kp tn) tn kp hp h6 (fun x hx => mem_ids_kept hx) (fun t ht hk => mem_ids_made ht hk)
  refine ⟨hal tn kp kp.reverse ha hp h6, hd.2, fun x hx => ?_⟩
  exact place_mem ((idsTo_nodup h5).2 _ (hd.1 x hx))

end Go.Proofs.YtkaegbhmeonjfaaGreat

/- LnkP: Directories in the order of their names: the model's is, and two such that are alike are one. -/
namespace Go.Proofs.YtkaegbhmeonjfaaGreat
open Go.RowKit
set_option linter.unusedVariables false
set_option maxRecDepth 100000

/-- In the order of the names, none twice. -/
def Asc (l : List LinkD) : Prop := l.Pairwise fun x y => ltS x.1 y.1 = true

theorem asc_nil : Asc [] := List.Pairwise.nil

theorem asc_less {l : List LinkD} (h : Asc l) (s : ByteArray) : Asc (lessL l s) := List.Pairwise.filter _ h

theorem hasL_mem {l : List LinkD} {x : LinkD} (h : x ∈ l) : hasL l x.1 = true := by
  unfold hasL
  exact List.any_eq_true.2 ⟨x, h, by simp⟩

theorem hasL_not {l : List LinkD} {s : ByteArray} (h : hasL l s = false) : ∀ x ∈ l, x.1 ≠ s := fun x hx e => by
  rw [← e, hasL_mem hx] at h; cases h

theorem ltS_flip {a b : ByteArray} (h : ltS a b = false) (hn : b ≠ a) : ltS b a = true := by
  cases e : ltS b a with
  | true => rfl
  | false => exact absurd (ltS_total e h) hn

theorem asc_with : ∀ {l : List LinkD} {s : ByteArray} (id : Int), Asc l → hasL l s = false → Asc (withL l s id)
  | [], s, id, _, _ => List.pairwise_singleton _ _
  | x :: l, s, id, h, hn => by
    obtain ⟨h1, h2⟩ := List.pairwise_cons.1 h
    unfold withL
    split
    · rename_i hlt
      refine List.pairwise_cons.2 ⟨fun y hy => ?_, h⟩
      rcases List.mem_cons.1 hy with rfl | hy
      · exact hlt
      · exact ltS_trans hlt (h1 y hy)
    · rename_i hlt
      have hlf : ltS s x.1 = false := by cases e : ltS s x.1 with | true => exact absurd e hlt | false => rfl
      have hx : x.1 ≠ s := hasL_not hn x (by simp)
      have hn' : hasL l s = false := by rw [hasL_cons] at hn; exact (Bool.or_eq_false_iff.1 hn).2
      refine List.pairwise_cons.2 ⟨fun y hy => ?_, asc_with id h2 hn'⟩
      rcases mem_with hy with rfl | hy
      · exact ltS_flip hlf hx
      · exact h1 y hy

theorem has_less_same (l : List LinkD) (s : ByteArray) : hasL (lessL l s) s = false := by rw [hasL_less]; simp

theorem asc_turn {l : List LinkD} {t : TurnD} (h : Asc l) (hp : Pos l) (hk : turnOkL l t) : Asc (turnL l t) := by
  unfold turnL
  split
  · rename_i h1
    have hf : hasL l t.2.1 = false := by
      rcases hk.2 with ⟨_, _, _, hz⟩ | ⟨h5, _⟩ | ⟨h6, _⟩
      · cases e : hasL l t.2.1 with
        | false => rfl
        | true => exact absurd ((findL_pos hp _).1 e) hz
      · omega
      · omega
    exact asc_with _ h hf
  · split
    · exact asc_with _ (asc_less (asc_less h _) _) (has_less_same _ _)
    · exact asc_less h _

theorem pos_turn {l : List LinkD} {t : TurnD} (hp : Pos l) (hk : turnOkL l t) : Pos (turnL l t) := (turn_alike (Alike.refl l) hp hk).2

theorem asc_dir : ∀ {ts : List TurnD} {l : List LinkD}, Asc l → Pos l → turnsOkL l ts → Asc (dirL l ts)
  | [], l, h, _, _ => h
  | t :: ts, l, h, hp, hk => by
    show Asc (dirL (turnL l t) ts)
    exact asc_dir (asc_turn h hp hk.1) (pos_turn hp hk.1) hk.2

theorem asc_kept {l : List LinkD} (h : keptTo l l.length) : Asc l := by
  refine List.pairwise_iff_getElem.2 ?_
  intro i j hi hj hij
  induction j with
  | zero => omega
  | succ j ih =>
    have h1 := (h (j + 1) hj hj).2.2 j (by omega) rfl
    by_cases e : i = j
    · subst e; exact h1
    · exact ltS_trans (ih (by omega) (by omega)) h1

/-- Two such that are alike are one. -/
theorem asc_eq : ∀ {l m : List LinkD}, Asc l → Asc m → Alike l m → l = m
  | [], [], _, _, _ => rfl
  | [], y :: m, _, _, ha => by
    have := (ha y.1).1
    rw [hasL_mem (l := y :: m) (by simp)] at this
    cases this
  | x :: l, [], _, _, ha => by
    have := (ha x.1).1
    rw [hasL_mem (l := x :: l) (by simp)] at this
    cases this
  | x :: l, y :: m, hl, hm, ha => by
    obtain ⟨l1, l2⟩ := List.pairwise_cons.1 hl
    obtain ⟨m1, m2⟩ := List.pairwise_cons.1 hm
    have nl : ∀ s, ltS s x.1 = true ∨ s = x.1 → hasL l s = false := fun s hs => by
      cases e : hasL l s with
      | false => rfl
      | true =>
        obtain ⟨z, hz, rfl, _⟩ := findL_mem e
        have := l1 z hz
        rcases hs with hs | hs
        · have := ltS_trans this hs; rw [ltS_irrefl] at this; cases this
        · rw [hs, ltS_irrefl] at this; cases this
    have nm : ∀ s, ltS s y.1 = true ∨ s = y.1 → hasL m s = false := fun s hs => by
      cases e : hasL m s with
      | false => rfl
      | true =>
        obtain ⟨z, hz, rfl, _⟩ := findL_mem e
        have := m1 z hz
        rcases hs with hs | hs
        · have := ltS_trans this hs; rw [ltS_irrefl] at this; cases this
        · rw [hs, ltS_irrefl] at this; cases this
    have e1 : x.1 = y.1 := by
      have hx := (ha x.1).1
      have hy := (ha y.1).1
      rw [hasL_cons, hasL_cons] at hx hy
      cases c1 : ltS x.1 y.1 with
      | true =>
        rw [nm x.1 (.inl c1)] at hx
        simp only [decide_true, Bool.true_or, Bool.or_false] at hx
        exact (of_decide_eq_true hx.symm).symm
      | false =>
        cases c2 : ltS y.1 x.1 with
        | false => exact ltS_total c1 c2
        | true =>
          rw [nl y.1 (.inl c2)] at hy
          simp only [decide_true, Bool.true_or, Bool.or_false] at hy
          exact of_decide_eq_true hy
    have e2 : x.2.1 = y.2.1 := by
      have := (ha x.1).2
      rw [findL_cons, findL_cons, if_pos rfl, if_pos e1.symm] at this
      exact this
    have exy : x = y := by
      obtain ⟨x1, x2, x3⟩ := x
      obtain ⟨y1, y2, y3⟩ := y
      simp only at e1 e2
      rw [e1, e2]
    subst exy
    have ha' : Alike l m := fun s => by
      by_cases es : x.1 = s
      · subst es
        rw [nl x.1 (.inr rfl), nm x.1 (.inr rfl), findL_none (nl x.1 (.inr rfl)), findL_none (nm x.1 (.inr rfl))]
        exact ⟨rfl, rfl⟩
      · have := ha s
        rw [hasL_cons, hasL_cons, findL_cons, findL_cons] at this
        simpa [es] using this
    rw [asc_eq l2 m2 ha']

/-- The directory of a right disk stands in the order of the names. -/
theorem asc_disk {d : shDisk.D} (h : specOkP d) (k : Nat) : Asc (dirL d.2.2.2.2.1 (List.take (α := TurnD) k d.2.2.2.2.2.1)) := by
  obtain ⟨_, _, hk, _, _, ht, _⟩ := h
  exact asc_dir (asc_kept hk) (kept_pos hk) (turnsOk_take ht k)

/-- strings.Compare's sign. -/
theorem compare_less : ∀ (a b : List UInt8), decide (Lib.compareBytes a b < 0) = Go.Op.bytesLess a b
  | [], [] => by simp [Lib.compareBytes, Go.Op.bytesLess]
  | [], b :: bs => by simp [Lib.compareBytes, Go.Op.bytesLess]
  | a :: ar, [] => by simp [Lib.compareBytes, Go.Op.bytesLess]
  | a :: ar, b :: bs => by
    unfold Lib.compareBytes Go.Op.bytesLess
    by_cases h1 : a < b
    · simp [h1]
    · by_cases h2 : b < a
      · have hne : (a == b) = false := by
          cases e : a == b with
          | false => rfl
          | true => rw [eq_of_beq e] at h2; exact absurd h2 (by simp [UInt8.lt_irrefl])
        simp [h1, h2, hne]
      · have he : a = b := by
          have e1 := UInt8.not_lt.1 h1
          have e2 := UInt8.not_lt.1 h2
          exact UInt8.le_antisymm e2 e1
        subst he
        have ih := compare_less ar bs
        simp [h1, ih]

end Go.Proofs.YtkaegbhmeonjfaaGreat

/- LnkS: slices.SortFunc at links, by their names: a row of the call's own is set in the order of its names. -/
namespace Go.Proofs.YtkaegbhmeonjfaaGreat
open Go.RowKit Go.Sort
set_option linter.unusedVariables false
set_option maxRecDepth 100000

def encL (x : LinkD) : List Value := [.string x.1, .int .i64 x.2.1]
def cfL (x y : LinkD) : Int := Lib.compareBytes x.1.data.toList y.1.data.toList

theorem lt_cfL (x y : LinkD) : ltOf cfL x y = ltS x.1 y.1 := by
  unfold ltOf cfL ltS
  rw [compare_less, ByteArray.toList_eq, ByteArray.toList_eq]

theorem ltS_ntrans {a b c : ByteArray} (h1 : ltS a b = false) (h2 : ltS b c = false) : ltS a c = false := by
  cases e : ltS a c with
  | false => rfl
  | true =>
    by_cases hab : b = a
    · subst hab; rw [h2] at e; cases e
    · have := ltS_trans (ltS_flip h1 hab) e
      rw [h2] at this; cases this

theorem swoL : SWO (ltOf cfL) where
  irrefl x := by rw [lt_cfL]; exact ltS_irrefl _
  trans x y z h1 h2 := by rw [lt_cfL] at *; exact ltS_trans h1 h2
  ntrans x y z h1 h2 := by rw [lt_cfL] at *; exact ltS_ntrans h1 h2

set_option maxHeartbeats 1000000 in
theorem linkCmp (x y : LinkD) (W : World) : Calls Tryz.prog 94 #[.agg #[.string x.1, .int .i64 x.2.1], .agg #[.string y.1, .int .i64 y.2.1]] W fun e w' => e = .returned (.int .i64 (cfL x y)) ∧ ∃ q os', w' = grow (W.drewN q) os' := by
  have hcon : ∀ W', Calls Tryz.prog 95 #[.string x.1, .string y.1] W' fun e w' => e = .returned (.int .i64 (cfL x y)) ∧ w' = W' := fun W' => Tryz.strings_Compare x.1 y.1 W'
  generalize cfL x y = r at hcon ⊢
  go_enter Tryz.func94, Tryz.ntmps94
  go_wp2_with (go_at_call 95; refine (hcon _).mono ?_; rintro e w' ⟨rfl, rfl⟩)
  go_ret
  exact ⟨rfl, 0, _, by rw [alloc_eq_grow, alloc_eq_grow, grow_grow]; rfl⟩

theorem cmpLaysL (blk off size : Nat) (w : World) : CmpLays Tryz.prog 94 #[] encL 2 cfL blk off size w :=
  fun _ _ _ _ x y => linkCmp x y _

theorem flatK_cells (l : List LinkD) (j : Nat) (hj : j < l.length * 2) : (cellsL l)[j]? = some (flatK encL 2 l.toArray)[j]! := by
  rw [get_flatK _ _ _ j (by simpa using hj)]
  have h2 : j / 2 < l.length := by omega
  have h3 : j % 2 < 2 := by omega
  have h := flatten_get (n := 2) (l := l.map encL) (i := j / 2) (j := j % 2) (c := encL l[j / 2]) (fun k d hk => by
    rw [List.getElem?_map] at hk
    obtain ⟨x, _, rfl⟩ := Option.map_eq_some_iff.1 hk
    rfl) (by rw [List.getElem?_map, List.getElem?_eq_getElem h2]; rfl) h3
  rw [show j / 2 * 2 + j % 2 = j by omega, flatMap_flatten] at h
  have e : l.toArray[j / 2]! = l[j / 2] := by simp [getElem!_pos, h2]
  rw [e]
  refine Eq.trans h ?_
  rcases (by omega : j % 2 = 0 ∨ j % 2 = 1) with h0 | h0 <;> rw [h0] <;> rfl

theorem cells_len2 (l : List LinkD) : (cellsL l).length = l.length * 2 := by
  induction l with
  | nil => rfl
  | cons x l ih => simp [cellsL] at ih ⊢; omega

theorem holdsL {w : World} {B g m cap : Nat} {t : TypeId} {l : List LinkD} (hl : l.length = m) (h : w.ownsRow B t 2 (.slice (some ⟨g, 0, none⟩) m cap) m (cellsL l)) : HoldsK encL 2 w g 0 l.toArray := by
  intro j hj
  have hj' : j < l.length * 2 := by simpa using hj
  refine ⟨?_, ?_⟩
  · rw [Nat.zero_add, h.cellAt j (by omega), flatK_cells l j hj']; rfl
  · rw [Nat.zero_add]; exact h.frozenAt j

theorem sorted_own {w : World} {B g m cap : Nat} {t : TypeId} {l l' : List LinkD} (hl' : l'.length = m) (h : w.ownsRow B t 2 (.slice (some ⟨g, 0, none⟩) m cap) m (cellsL l)) (n : Nat) (os : Array Obj) :
    (sortWorldK encL 2 w g 0 n l'.toArray os).ownsRow B t 2 (.slice (some ⟨g, 0, none⟩) m cap) m (cellsL l') := by
  rcases h.2 with ⟨h1, _⟩ | ⟨g', cap', cur, hv, hg, hh, h1, h2, h3, h4⟩
  · simp at h1
  · simp only [Value.slice.injEq, Option.some.injEq, Addr.mk.injEq, and_true, true_and] at hv
    obtain ⟨rfl, rfl⟩ := hv
    have hgs : g < w.heap.size := (Array.getElem?_eq_some_iff.1 hh).1
    refine ⟨by rw [cells_len2, hl'], .inr ⟨g, cap, putCells id 0 (flatK encL 2 l'.toArray) cur, rfl, hg, ?_, h1, h2, ?_, ?_⟩⟩
    · unfold sortWorldK putRowK
      rw [heap_grow_old _ _ (by simpa [putRow, mapBlock, Sort.ahead] using hgs)]
      simp [putRow, mapBlock, Sort.ahead, Array.getElem?_modify, hh, onCells]
    · simp [putCells, h3]
    · apply List.ext_getElem?
      intro j
      by_cases hj : j < m * 2
      · have hjc : j < cur.size := by rw [h3]; omega
        rw [List.getElem?_take_of_lt hj, flatK_cells l' j (by omega)]
        simp [putCells, hjc, hl', hj]
      · rw [List.getElem?_eq_none (by rw [List.length_take]; omega), List.getElem?_eq_none (by rw [cells_len2, hl']; omega)]

theorem sortL_grown (w : World) (n g : Nat) (d : Array LinkD) (os : Array Obj) : w.grownBy (sortWorldK encL 2 w g 0 n d os) (some g) := by
  unfold sortWorldK putRowK
  refine ⟨rfl, rfl, rfl, ?_, fun k hk hne => ?_⟩
  · simp [grow, putRow, mapBlock, Sort.ahead]
  · have hkg : g ≠ k := fun e => hne (by rw [e])
    rw [heap_grow_old _ _ (by simpa [putRow, mapBlock, Sort.ahead] using hk)]
    simp [putRow, mapBlock, Sort.ahead, Array.getElem?_modify, hkg]

theorem sortLinks_ok (B g m cap : Nat) (l : List LinkD) (w : World) (hl : l.length = m) (hs : m < 4611686018427387904) (h : w.ownsRow B 111 2 (.slice (some ⟨g, 0, none⟩) m cap) m (cellsL l)) (hnd : l.Pairwise fun x y => x.1 ≠ y.1) :
    Calls Tryz.prog 93 #[.slice (some ⟨g, 0, none⟩) m cap, .func (.func 94) #[] #[]] w fun e w' => e = .returned (.tuple #[]) ∧ ∃ l', l'.Perm l ∧ Asc l' ∧ w'.ownsRow B 111 2 (.slice (some ⟨g, 0, none⟩) m cap) m (cellsL l') ∧ w.grownBy w' (some g) := by
  have hH := holdsL hl h
  have hg := (h.lt g rfl).2
  have eg : ∀ args w, (callFunc 94 args).run Tryz.prog w = .ok (.enter 94 args) w := enters_of Tryz.func94 (by kernel_rfl) rfl
  subst hl
  have hcon := AnyQ.slices_SortFunc Tryz.sortLinks 2 (fun w => by kernel_rfl) (fun w => by kernel_rfl) encL (fun _ => rfl) (fun x v hv => by simp [encL] at hv; rcases hv with rfl | rfl <;> rfl) cfL swoL 94 #[] g 0 cap l.toArray w eg (cmpLaysL g 0 l.toArray.size w) hH hg (by simpa using hs)
  refine Calls.mono (P := Tryz.prog) hcon ?_
  rintro e w' ⟨rfl, d', n, os, hp, hso, rfl⟩
  have hsz : d'.size = l.length := by simpa using hp.1
  have hperm : d'.toList.Perm l := by
    have := hp.2.2
    rw [show l.toArray.size = d'.size by rw [hsz]; simp, Array.extract_size] at this
    simpa [hsz] using this
  have hnd' : d'.toList.Pairwise fun x y => x.1 ≠ y.1 := (List.Perm.pairwise_iff (fun hxy => fun e => hxy e.symm) hperm).2 hnd
  have hasc : Asc d'.toList := by
    refine List.pairwise_iff_getElem.2 ?_
    intro i j hi hj hij
    have hi' : i < d'.size := by simpa using hi
    have hj' : j < d'.size := by simpa using hj
    have h1 := hso i j (Nat.zero_le _) hij (by simpa [hsz] using hj')
    rw [lt_cfL, getElem!_pos d' i hi', getElem!_pos d' j hj'] at h1
    have h2 := List.pairwise_iff_getElem.1 hnd' i j hi hj hij
    simp only [Array.getElem_toList] at h2 ⊢
    exact ltS_flip h1 h2
  have e := sorted_own (l' := d'.toList) (by simpa using hsz) h n os
  exact ⟨rfl, d'.toList, hperm, hasc, e, sortL_grown w n g d' os⟩

end Go.Proofs.YtkaegbhmeonjfaaGreat
