/-
  The marks of the type Turn. By program (mkgen.py).
-/
import Derived.Test.YtdmgknmlgipnpaaTyTurn
import Derived.Test.YtdmgknmlgipnpaaMkB
namespace Go.Proofs.Ytdmgknmlgipnpaa
open Go.RowKit
set_option linter.unusedVariables false

theorem openO_Turn {w : World} {B : Nat} {cs : List Value} {d : shTurn.D} {F : List Nat} (h : Own shTurn w B cs d F) :
    cs = [.int .i64 (d.1), .string (d.2.1), .string (d.2.2.1), .int .i64 (d.2.2.2.1)] ∧ F = [] := by
  obtain ⟨_, _, G0, _, rfl, rfl, h0, _, _, G1, _, rfl, rfl, h1, _, _, G2, _, rfl, rfl, h2, _, _, G3, _, rfl, rfl, h3, hE⟩ := h
  obtain ⟨rfl, rfl⟩ := h0
  obtain ⟨⟨rfl, _⟩, rfl⟩ := h1
  obtain ⟨⟨rfl, _⟩, rfl⟩ := h2
  obtain ⟨rfl, rfl⟩ := h3
  obtain ⟨rfl, rfl⟩ := hE
  exact ⟨rfl, by simp⟩

theorem cnt_Turn (d : shTurn.D) : shTurn.cnt d = 1 + 1 + 1 + 1 := by
  show 1 + (1 + (1 + (1 + (0)))) = _
  omega

set_option maxRecDepth 100000 in
set_option maxHeartbeats 2000000 in
theorem markTurnS_own (a : Option Addr) (n cap B k : Nat) (d : List shTurn.D) (F : List Nat) (w : World) (ho : Own (.sl shTurn) w B [.slice a n cap] d F) (hnd : F.Nodup) (hk0 : 1 ≤ k) (hk : k + Sh.cnt (.sl shTurn) d ≤ 1000000000000) :
    Calls Try.prog 43 #[.slice a n cap, .int .i64 k] w fun e w' => e = .returned (.int .i64 ((k + Sh.cnt (.sl shTurn) d : Nat) : Int)) ∧ Own (.sl shTurn) w' B [.slice a n cap] (Sh.mk (.sl shTurn) d k) F ∧ Touch w w' F := by
  obtain ⟨hl, hm, hg⟩ := own_len ho
  obtain ⟨C, hC⟩ : ∃ C, C = Sh.cnt (.sl shTurn) d := ⟨_, rfl⟩
  rw [← hC] at hk ⊢
  have HO : Hid (Own (.sl shTurn) w B [.slice a n cap] d F ∧ F.Nodup) := ⟨ho, hnd⟩
  have HL : Hid (d.length = n ∧ C = Sh.cnt (.sl shTurn) d) := ⟨hl, hC⟩
  clear ho hnd hl hC
  unfold maxLen at hm
  go_enter Try.func43, Try.ntmps43
  go_wp2
  go_loopw [1, 5] (fun m i wr => ∃ j kk : Nat, j ≤ n ∧ m = .int .i64 (kk : Int) ∧ i = .int .i64 j ∧ Hid (kk = k + cntTo shTurn d j) ∧ 1 ≤ kk ∧ Hid (Own (.sl shTurn) wr B [.slice a n cap] (mkTo shTurn d k j) F) ∧ Touch w wr F) (fun _ i _ => n - (intOf i).toNat)
  case atStart => exact ⟨0, k, Nat.zero_le _, rfl, rfl, by show k = _; rw [cntTo_zero]; rfl, hk0, by show Own _ _ _ _ _ _; rw [mkTo_zero]; exact HO.out.1, Touch.refl _ _⟩
  case round =>
    obtain ⟨j, kk, hj, rfl, rfl, hkk, hkk1, ho, ht⟩ := hrel
    by_cases hlt : j < n
    · obtain ⟨g, rfl⟩ := hg.resolve_left (by omega)
      obtain ⟨t, cur, c, x, f, hh, hx, hoe, hnf, hgf, hfF, hgF, hBg, hcur, hclose⟩ := own_elem ho.out HO.out.2 j hlt
      have hxd : shTurn.at d j = some x := by
        have h1 : j < d.length := by rw [HL.out.1]; exact hlt
        have h2 : shTurn.at d j = some d[j] := List.getElem?_eq_getElem h1
        have h3 := mkTo_at shTurn d k j _ h2
        rw [h2, ← h3]; exact hx
      have hsucc := cntTo_succ shTurn d j x hxd
      have hle := cntTo_le shTurn d (j + 1)
      have hms := mkTo_set shTurn d k j x hxd
      rw [← hkk.out] at hms
      rw [cnt_Turn] at hsucc
      obtain ⟨rfl, rfl⟩ := openO_Turn hoe
      have hkn : kk + (1 + 1 + 1 + 1) ≤ 1000000000000 := by have h1 := hkk.out; have h2 := HL.out.2; rw [← h2] at hle; omega
      have HK : Hid (kk + (1 + 1 + 1 + 1) = k + cntTo shTurn d (j + 1)) := by show _ = _; rw [hsucc, hkk.out]; omega
      have hq0 : cur[j * 4]? = some (.int .i64 (x.1)) := hcur 0 (by decide)
      have hq1 : cur[j * 4 + 1]? = some (.string (x.2.1)) := hcur 1 (by decide)
      have hq2 : cur[j * 4 + 2]? = some (.string (x.2.2.1)) := hcur 2 (by decide)
      have hq3 : cur[j * 4 + 3]? = some (.int .i64 (x.2.2.2.1)) := hcur 3 (by decide)
      have HQ : Hid (cur[j * 4]? = some (.int .i64 (x.1)) ∧ cur[j * 4 + 1]? = some (.string (x.2.1)) ∧ cur[j * 4 + 2]? = some (.string (x.2.2.1)) ∧ cur[j * 4 + 3]? = some (.int .i64 (x.2.2.2.1)) ∧ True) := ⟨hq0, hq1, hq2, hq3, trivial⟩
      have qc1 : Hid (∀ w' : World, Calls Try.prog 44 #[.int .i64 ((kk : Int) + 1)] w' fun e w'' => e = .returned (.string (mtext (kk + 1))) ∧ Below w'.heap.size w' w'') := fun w' => by
        have e : (((kk + 1 : Nat)) : Int) = (kk : Int) + 1 := by omega
        rw [← e]
        exact markText_any (kk + 1) w' (by omega) (by omega)
      obtain ⟨T1, hT1⟩ : ∃ T, T = mtext (kk + 1) := ⟨_, rfl⟩
      have HT1 : Hid (T1 = mtext (kk + 1)) := hT1
      rw [← hT1] at qc1
      clear hT1
      have qc2 : Hid (∀ w' : World, Calls Try.prog 44 #[.int .i64 ((kk : Int) + 1 + 1)] w' fun e w'' => e = .returned (.string (mtext (kk + 1 + 1))) ∧ Below w'.heap.size w' w'') := fun w' => by
        have e : (((kk + 1 + 1 : Nat)) : Int) = (kk : Int) + 1 + 1 := by omega
        rw [← e]
        exact markText_any (kk + 1 + 1) w' (by omega) (by omega)
      obtain ⟨T2, hT2⟩ : ∃ T, T = mtext (kk + 1 + 1) := ⟨_, rfl⟩
      have HT2 : Hid (T2 = mtext (kk + 1 + 1)) := hT2
      rw [← hT2] at qc2
      clear hT2
      have HGN : Hid (True) := trivial
      have HMS : Hid (List.set (mkTo shTurn d k j) j (shTurn.mk x kk) = mkTo shTurn d k (j + 1)) := hms
      have HCL : Hid (∀ (w2 : World) (c' : List Value) (x' : shTurn.D), Own shTurn w2 B c' x' ([]) → w2.heap[g]? = some (.cells (setRow cur.toList (j * shTurn.size) c').toArray t (0, 0)) → (∀ y ∈ F, y ≠ g → y ∉ [] → w2.heap[y]? = wr.heap[y]?) → Own (.sl shTurn) w2 B [.slice (some ⟨g, 0, none⟩) n cap] (List.set (mkTo shTurn d k j) j x') F) := hclose
      obtain ⟨uwr_0, ywr_0⟩ : ∃ u, wr.cell? ⟨g, j * 4, none⟩ = some u := ⟨_, box_cell hh (by exact HQ.out.1)⟩
      have yfwr_0 : wr.frozen? ⟨g, j * 4, none⟩ = false := box_frozen hh
      obtain ⟨uwr_1, ywr_1⟩ : ∃ u, wr.cell? ⟨g, j * 4 + 1, none⟩ = some u := ⟨_, box_cell hh (by exact HQ.out.2.1)⟩
      have yfwr_1 : wr.frozen? ⟨g, j * 4 + 1, none⟩ = false := box_frozen hh
      obtain ⟨uwr_2, ywr_2⟩ : ∃ u, wr.cell? ⟨g, j * 4 + 2, none⟩ = some u := ⟨_, box_cell hh (by exact HQ.out.2.2.1)⟩
      have yfwr_2 : wr.frozen? ⟨g, j * 4 + 2, none⟩ = false := box_frozen hh
      obtain ⟨uwr_3, ywr_3⟩ : ∃ u, wr.cell? ⟨g, j * 4 + 3, none⟩ = some u := ⟨_, box_cell hh (by exact HQ.out.2.2.2.1)⟩
      have yfwr_3 : wr.frozen? ⟨g, j * 4 + 3, none⟩ = false := box_frozen hh
      clear hms hclose hcur hsucc hle hx hxd hoe hgf hq0 hq1 hq2 hq3
      go_wp2_with fail
      obtain ⟨W1, hW1⟩ : ∃ W, W = (wr).setCell ⟨g, j * 4, none⟩ (.int .i64 ((kk : Int))) := ⟨_, rfl⟩
      have hhW1 : W1.heap[g]? = some (.cells ((cur).setIfInBounds (j * 4) (.int .i64 ((kk : Int)))) t (0, 0)) := by rw [hW1]; exact box_set (j := j * 4) (.int .i64 ((kk : Int))) (hh)
      have tW1 : Touch w W1 F := by rw [hW1]; exact (ht.trans (Touch.set _ g _ _ hgF))
      have rW1 : Hid (∀ y ∈ F, y ≠ g → y ∉ [] → W1.heap[y]? = wr.heap[y]?) := fun y hy hyg hyf => by rw [hW1]; exact ((box_other _ hyg).trans rfl)
      have zW1 : wr.heap.size ≤ W1.heap.size := by rw [hW1]; simp
      rw [← hW1]
      refine (qc1.out _).mono ?_
      rintro e w1 ⟨rfl, hb1⟩
      have tb1 : Touch W1 w1 F := Touch.of_below hb1 F
      have hhw1 : w1.heap[g]? = some (.cells ((cur).setIfInBounds (j * 4) (.int .i64 ((kk : Int)))) t (0, 0)) := (hb1.block g (lt_heap hhW1)).trans hhW1
      have rw1 : Hid (∀ y ∈ F, y ≠ g → y ∉ [] → w1.heap[y]? = wr.heap[y]?) := fun y hy hyg hyf => (hb1.block y (Nat.lt_of_lt_of_le (ho.out.lt y hy).2 zW1)).trans ((rW1.out y hy hyg hyf))
      have zw1 : wr.heap.size ≤ w1.heap.size := Nat.le_trans zW1 hb1.size
      have tw1 : Touch w w1 F := tW1.trans tb1
      obtain ⟨uw1_0, yw1_0⟩ : ∃ u, w1.cell? ⟨g, j * 4, none⟩ = some u := ⟨_, box_cell hhw1 (by rw [Array.getElem?_setIfInBounds_self_of_lt (by first | exact (Array.getElem?_eq_some_iff.1 HQ.out.1).1 | (simp only [Array.size_setIfInBounds]; exact (Array.getElem?_eq_some_iff.1 HQ.out.1).1))])⟩
      have yfw1_0 : w1.frozen? ⟨g, j * 4, none⟩ = false := box_frozen hhw1
      obtain ⟨uw1_1, yw1_1⟩ : ∃ u, w1.cell? ⟨g, j * 4 + 1, none⟩ = some u := ⟨_, box_cell hhw1 (by rw [Array.getElem?_setIfInBounds_ne (by omega)]; exact HQ.out.2.1)⟩
      have yfw1_1 : w1.frozen? ⟨g, j * 4 + 1, none⟩ = false := box_frozen hhw1
      obtain ⟨uw1_2, yw1_2⟩ : ∃ u, w1.cell? ⟨g, j * 4 + 2, none⟩ = some u := ⟨_, box_cell hhw1 (by rw [Array.getElem?_setIfInBounds_ne (by omega)]; exact HQ.out.2.2.1)⟩
      have yfw1_2 : w1.frozen? ⟨g, j * 4 + 2, none⟩ = false := box_frozen hhw1
      obtain ⟨uw1_3, yw1_3⟩ : ∃ u, w1.cell? ⟨g, j * 4 + 3, none⟩ = some u := ⟨_, box_cell hhw1 (by rw [Array.getElem?_setIfInBounds_ne (by omega)]; exact HQ.out.2.2.2.1)⟩
      have yfw1_3 : w1.frozen? ⟨g, j * 4 + 3, none⟩ = false := box_frozen hhw1
      go_wp2_with fail
      obtain ⟨W2, hW2⟩ : ∃ W, W = (w1).setCell ⟨g, j * 4 + 1, none⟩ (.string T1) := ⟨_, rfl⟩
      have hhW2 : W2.heap[g]? = some (.cells (((cur).setIfInBounds (j * 4) (.int .i64 ((kk : Int)))).setIfInBounds (j * 4 + 1) (.string T1)) t (0, 0)) := by rw [hW2]; exact box_set (j := j * 4 + 1) (.string T1) (hhw1)
      have tW2 : Touch w W2 F := by rw [hW2]; exact (tw1.trans (Touch.set _ g _ _ hgF))
      have rW2 : Hid (∀ y ∈ F, y ≠ g → y ∉ [] → W2.heap[y]? = wr.heap[y]?) := fun y hy hyg hyf => by rw [hW2]; exact ((box_other _ hyg).trans (rw1.out y hy hyg hyf))
      have zW2 : wr.heap.size ≤ W2.heap.size := by rw [hW2]; simp; omega
      rw [← hW2]
      refine (qc2.out _).mono ?_
      rintro e w2 ⟨rfl, hb2⟩
      have tb2 : Touch W2 w2 F := Touch.of_below hb2 F
      have hhw2 : w2.heap[g]? = some (.cells (((cur).setIfInBounds (j * 4) (.int .i64 ((kk : Int)))).setIfInBounds (j * 4 + 1) (.string T1)) t (0, 0)) := (hb2.block g (lt_heap hhW2)).trans hhW2
      have rw2 : Hid (∀ y ∈ F, y ≠ g → y ∉ [] → w2.heap[y]? = wr.heap[y]?) := fun y hy hyg hyf => (hb2.block y (Nat.lt_of_lt_of_le (ho.out.lt y hy).2 zW2)).trans ((rW2.out y hy hyg hyf))
      have zw2 : wr.heap.size ≤ w2.heap.size := Nat.le_trans zW2 hb2.size
      have tw2 : Touch w w2 F := tW2.trans tb2
      obtain ⟨uw2_0, yw2_0⟩ : ∃ u, w2.cell? ⟨g, j * 4, none⟩ = some u := ⟨_, box_cell hhw2 (by rw [Array.getElem?_setIfInBounds_ne (by omega)]; rw [Array.getElem?_setIfInBounds_self_of_lt (by first | exact (Array.getElem?_eq_some_iff.1 HQ.out.1).1 | (simp only [Array.size_setIfInBounds]; exact (Array.getElem?_eq_some_iff.1 HQ.out.1).1))])⟩
      have yfw2_0 : w2.frozen? ⟨g, j * 4, none⟩ = false := box_frozen hhw2
      obtain ⟨uw2_1, yw2_1⟩ : ∃ u, w2.cell? ⟨g, j * 4 + 1, none⟩ = some u := ⟨_, box_cell hhw2 (by rw [Array.getElem?_setIfInBounds_self_of_lt (by first | exact (Array.getElem?_eq_some_iff.1 HQ.out.2.1).1 | (simp only [Array.size_setIfInBounds]; exact (Array.getElem?_eq_some_iff.1 HQ.out.2.1).1))])⟩
      have yfw2_1 : w2.frozen? ⟨g, j * 4 + 1, none⟩ = false := box_frozen hhw2
      obtain ⟨uw2_2, yw2_2⟩ : ∃ u, w2.cell? ⟨g, j * 4 + 2, none⟩ = some u := ⟨_, box_cell hhw2 (by rw [Array.getElem?_setIfInBounds_ne (by omega)]; rw [Array.getElem?_setIfInBounds_ne (by omega)]; exact HQ.out.2.2.1)⟩
      have yfw2_2 : w2.frozen? ⟨g, j * 4 + 2, none⟩ = false := box_frozen hhw2
      obtain ⟨uw2_3, yw2_3⟩ : ∃ u, w2.cell? ⟨g, j * 4 + 3, none⟩ = some u := ⟨_, box_cell hhw2 (by rw [Array.getElem?_setIfInBounds_ne (by omega)]; rw [Array.getElem?_setIfInBounds_ne (by omega)]; exact HQ.out.2.2.2.1)⟩
      have yfw2_3 : w2.frozen? ⟨g, j * 4 + 3, none⟩ = false := box_frozen hhw2
      have hfin : Own (.sl shTurn) (((w2).setCell ⟨g, j * 4 + 2, none⟩ (.string T2)).setCell ⟨g, j * 4 + 3, none⟩ (.int .i64 ((kk : Int) + 1 + 1 + 1))) B [.slice (some ⟨g, 0, none⟩) n cap] (mkTo shTurn d k (j + 1)) F := by
        rw [← HMS.out]
        have l0 : Value.int .i64 ((kk : Int)) = Value.int .i64 (((kk : Nat)) : Int) := by congr 1 <;> omega
        have l1 : Value.string T1 = Value.string (mtext (kk + 1)) := by rw [HT1.out]
        have l2 : Value.string T2 = Value.string (mtext (kk + 1 + 1)) := by rw [HT2.out]
        have l3 : Value.int .i64 ((kk : Int) + 1 + 1 + 1) = Value.int .i64 (((kk + 1 + 1 + 1 : Nat)) : Int) := by congr 1 <;> omega
        refine HCL.out _ [.int .i64 ((kk : Int)), .string T1, .string T2, .int .i64 ((kk : Int) + 1 + 1 + 1)] _ ?_ ?_ ?_
        · have hb : Own shTurn (((w2).setCell ⟨g, j * 4 + 2, none⟩ (.string T2)).setCell ⟨g, j * 4 + 3, none⟩ (.int .i64 ((kk : Int) + 1 + 1 + 1))) B [.int .i64 (((kk : Nat)) : Int), .string (mtext (kk + 1)), .string (mtext (kk + 1 + 1)), .int .i64 (((kk + 1 + 1 + 1 : Nat)) : Int)] (shTurn.mk x kk) ([]) := own_Turn (w := ((w2).setCell ⟨g, j * 4 + 2, none⟩ (.string T2)).setCell ⟨g, j * 4 + 3, none⟩ (.int .i64 ((kk : Int) + 1 + 1 + 1))) (B := B) (d := shTurn.mk x kk) (mtext_le _) (mtext_le _)
          rw [l0, l1, l2, l3]
          exact hb
        · rw [show (((w2).setCell ⟨g, j * 4 + 2, none⟩ (.string T2)).setCell ⟨g, j * 4 + 3, none⟩ (.int .i64 ((kk : Int) + 1 + 1 + 1))).heap[g]? = some (.cells (((((cur).setIfInBounds (j * 4) (.int .i64 ((kk : Int)))).setIfInBounds (j * 4 + 1) (.string T1)).setIfInBounds (j * 4 + 2) (.string T2)).setIfInBounds (j * 4 + 3) (.int .i64 ((kk : Int) + 1 + 1 + 1))) t (0, 0)) from box_set (j := j * 4 + 3) (.int .i64 ((kk : Int) + 1 + 1 + 1)) (box_set (j := j * 4 + 2) (.string T2) (hhw2))]
          congr 2
          apply Array.ext'
          simp only [Array.toList_setIfInBounds]
          show _ = setRow cur.toList (j * 4) [.int .i64 ((kk : Int)), .string T1, .string T2, .int .i64 ((kk : Int) + 1 + 1 + 1)]
          rw [setRow]
          rw [setRow]
          rw [setRow]
          rw [setRow]
          all_goals (first | rfl | (rw [setRow]; all_goals rfl))
        · intro y hy hyg hyf; exact ((box_other _ hyg).trans ((box_other _ hyg).trans (rw2.out y hy hyg hyf)))
      have HFIN : Hid (Own (.sl shTurn) (((w2).setCell ⟨g, j * 4 + 2, none⟩ (.string T2)).setCell ⟨g, j * 4 + 3, none⟩ (.int .i64 ((kk : Int) + 1 + 1 + 1))) B [.slice (some ⟨g, 0, none⟩) n cap] (mkTo shTurn d k (j + 1)) F ∧ Touch w (((w2).setCell ⟨g, j * 4 + 2, none⟩ (.string T2)).setCell ⟨g, j * 4 + 3, none⟩ (.int .i64 ((kk : Int) + 1 + 1 + 1))) F) := ⟨hfin, ((tw2.trans (Touch.set _ g _ _ hgF)).trans (Touch.set _ g _ _ hgF))⟩
      clear hfin tw2 hhw2 
      go_wp2
      go_roundw
      case rel => exact ⟨j + 1, kk + (1 + 1 + 1 + 1), by omega, by congr 1 <;> omega, by go_num, HK.out, by omega, HFIN.out.1, HFIN.out.2⟩
      case measure => simp [intOf]; omega
    · have e : j = n := by omega
      subst e
      have hfin : Own (.sl shTurn) wr B [.slice a j cap] (Sh.mk (.sl shTurn) d k) F := (congrArg (fun z => Own (.sl shTurn) wr B [.slice a j cap] z F) (mkTo_all shTurn d k j (Nat.le_of_eq HL.out.1))).mp ho.out
      have hke : kk = k + C := by rw [hkk.out, HL.out.2, cntTo_all shTurn d j (Nat.le_of_eq HL.out.1)]
      have HH : Hid (Own (.sl shTurn) wr B [.slice a j cap] (Sh.mk (.sl shTurn) d k) F ∧ kk = k + C) := ⟨hfin, hke⟩
      clear hfin ho hke hkk
      go_wp2
      go_ret
      exact ⟨by rw [← HH.out.2]; rfl, HH.out.1, ht⟩

set_option maxRecDepth 100000 in
set_option maxHeartbeats 2000000 in
theorem heldTurnS_own (a : Option Addr) (n cap B k : Nat) (d : List shTurn.D) (F : List Nat) (w : World) (ho : Own (.sl shTurn) w B [.slice a n cap] (Sh.mk (.sl shTurn) d k) F) (hnd : F.Nodup) (hk0 : 1 ≤ k) (hk : k + Sh.cnt (.sl shTurn) d ≤ 1000000000000) :
    Calls Try.prog 47 #[.slice a n cap, .int .i64 k] w fun e w' => e = .returned (.int .i64 ((k + Sh.cnt (.sl shTurn) d : Nat) : Int)) ∧ Below w.heap.size w w' := by
  obtain ⟨hl0, hm, hg⟩ := own_len ho
  have hl : d.length = n := by rw [← hl0]; exact (mkRow_length _ _ _ _).symm
  obtain ⟨C, hC⟩ : ∃ C, C = Sh.cnt (.sl shTurn) d := ⟨_, rfl⟩
  rw [← hC] at hk ⊢
  have HO : Hid (Own (.sl shTurn) w B [.slice a n cap] (Sh.mk (.sl shTurn) d k) F ∧ F.Nodup) := ⟨ho, hnd⟩
  have HL : Hid (d.length = n ∧ C = Sh.cnt (.sl shTurn) d) := ⟨hl, hC⟩
  clear ho hnd hl hl0 hC
  unfold maxLen at hm
  go_enter Try.func47, Try.ntmps47
  go_wp2
  go_loopw [1, 5] (fun m i wr => ∃ j kk : Nat, j ≤ n ∧ m = .int .i64 (kk : Int) ∧ i = .int .i64 j ∧ Hid (kk = k + cntTo shTurn d j) ∧ 1 ≤ kk ∧ Below w.heap.size w wr) (fun _ i _ => n - (intOf i).toNat)
  case atStart => exact ⟨0, k, Nat.zero_le _, rfl, rfl, by show k = _; rw [cntTo_zero]; rfl, hk0, Below.refl _ _⟩
  case round =>
    obtain ⟨j, kk, hj, rfl, rfl, hkk, hkk1, hbel⟩ := hrel
    by_cases hlt : j < n
    · obtain ⟨g, rfl⟩ := hg.resolve_left (by omega)
      obtain ⟨t, cur, c, x', f, hh, hx', hoe, hnf, hgf, hfF, hgF, hBg, hcur, -⟩ := own_elem HO.out.1 HO.out.2 j hlt
      have hjd : j < d.length := by rw [HL.out.1]; exact hlt
      obtain ⟨x, hxe⟩ : ∃ x, x = d[j] := ⟨_, rfl⟩
      have hxd : shTurn.at d j = some x := by rw [hxe]; exact List.getElem?_eq_getElem hjd
      have hxm := mk_at shTurn d k j x hxd
      rw [← hkk.out] at hxm
      obtain rfl : shTurn.mk x kk = x' := Option.some.inj (hxm.symm.trans hx')
      have hsucc := cntTo_succ shTurn d j x hxd
      have hle := cntTo_le shTurn d (j + 1)
      rw [cnt_Turn] at hsucc
      have hglt := lt_heap hh
      obtain ⟨rfl, rfl⟩ := openO_Turn hoe
      have hkn : kk + (1 + 1 + 1 + 1) ≤ 1000000000000 := by have h1 := hkk.out; have h2 := HL.out.2; rw [← h2] at hle; omega
      have HK : Hid (kk + (1 + 1 + 1 + 1) = k + cntTo shTurn d (j + 1)) := by show _ = _; rw [hsucc, hkk.out]; omega
      have e0 : Value.int .i64 (((kk : Nat)) : Int) = Value.int .i64 ((kk : Int)) := by congr 1 <;> omega
      have cw0 : w.cell? ⟨g, j * 4, none⟩ = some (.int .i64 ((kk : Int))) := (box_cell hh (hcur 0 (by decide))).trans (congrArg some e0)
      have ne0 : (((kk : Int)) != ((kk : Int))) = false := by simp
      obtain ⟨T1, hT1⟩ : ∃ T, T = mtext (kk + 1) := ⟨_, rfl⟩
      have qc1 : Hid (∀ w' : World, Calls Try.prog 44 #[.int .i64 ((kk : Int) + 1)] w' fun e w'' => e = .returned (.string T1) ∧ Below w'.heap.size w' w'') := fun w' => by
        have e : (((kk + 1 : Nat)) : Int) = (kk : Int) + 1 := by omega
        rw [← e, hT1]
        exact markText_any (kk + 1) w' (by omega) (by omega)
      have e1 : Value.string (mtext (kk + 1)) = Value.string T1 := by rw [hT1]
      have cw1 : w.cell? ⟨g, j * 4 + 1, none⟩ = some (.string T1) := (box_cell hh (hcur 1 (by decide))).trans (congrArg some e1)
      have ne1 : (T1.toList != T1.toList) = false := by simp
      obtain ⟨T2, hT2⟩ : ∃ T, T = mtext (kk + 1 + 1) := ⟨_, rfl⟩
      have qc2 : Hid (∀ w' : World, Calls Try.prog 44 #[.int .i64 ((kk : Int) + 1 + 1)] w' fun e w'' => e = .returned (.string T2) ∧ Below w'.heap.size w' w'') := fun w' => by
        have e : (((kk + 1 + 1 : Nat)) : Int) = (kk : Int) + 1 + 1 := by omega
        rw [← e, hT2]
        exact markText_any (kk + 1 + 1) w' (by omega) (by omega)
      have e2 : Value.string (mtext (kk + 1 + 1)) = Value.string T2 := by rw [hT2]
      have cw2 : w.cell? ⟨g, j * 4 + 2, none⟩ = some (.string T2) := (box_cell hh (hcur 2 (by decide))).trans (congrArg some e2)
      have ne2 : (T2.toList != T2.toList) = false := by simp
      have e3 : Value.int .i64 (((kk + 1 + 1 + 1 : Nat)) : Int) = Value.int .i64 ((kk : Int) + 1 + 1 + 1) := by congr 1 <;> omega
      have cw3 : w.cell? ⟨g, j * 4 + 3, none⟩ = some (.int .i64 ((kk : Int) + 1 + 1 + 1)) := (box_cell hh (hcur 3 (by decide))).trans (congrArg some e3)
      have ne3 : (((kk : Int) + 1 + 1 + 1) != ((kk : Int) + 1 + 1 + 1)) = false := by simp
      clear hh hx' hoe hnf hgf hfF hgF hBg hcur hxd hxm hsucc hle hxe e0 e1 e2 e3 hT1 hT2
      have HCW : Hid (w.cell? ⟨g, j * 4, none⟩ = some (.int .i64 ((kk : Int))) ∧ w.cell? ⟨g, j * 4 + 1, none⟩ = some (.string T1) ∧ w.cell? ⟨g, j * 4 + 2, none⟩ = some (.string T2) ∧ w.cell? ⟨g, j * 4 + 3, none⟩ = some (.int .i64 ((kk : Int) + 1 + 1 + 1)) ∧ True) := ⟨cw0, cw1, cw2, cw3, trivial⟩
      clear cw0 cw1 cw2 cw3
      have ywr_0 : wr.cell? ⟨g, j * 4, none⟩ = _ := (hbel.cell (p := ⟨g, j * 4, none⟩) hglt).trans HCW.out.1
      have ywr_1 : wr.cell? ⟨g, j * 4 + 1, none⟩ = _ := (hbel.cell (p := ⟨g, j * 4 + 1, none⟩) hglt).trans HCW.out.2.1
      have ywr_2 : wr.cell? ⟨g, j * 4 + 2, none⟩ = _ := (hbel.cell (p := ⟨g, j * 4 + 2, none⟩) hglt).trans HCW.out.2.2.1
      have ywr_3 : wr.cell? ⟨g, j * 4 + 3, none⟩ = _ := (hbel.cell (p := ⟨g, j * 4 + 3, none⟩) hglt).trans HCW.out.2.2.2.1
      go_wp2_with fail
      have zz1 := hbel.size
      go_region_held (fun w' => w'.cell? ⟨g, j * 4 + 1, none⟩ = some (.string T1))
        (first | go_keep | (refine (hb1.cell (p := ⟨g, j * 4 + 1, none⟩) (by simp; omega)).trans ?_; assumption))
        ((go_at_call 44; refine (qc1.out _).mono ?_; rintro e w1 ⟨rfl, hb1⟩))
      have b1 := hbel.drew.trans (hb1.mono hbel.drew.size)
      have yw1_2 : w1.cell? ⟨g, j * 4 + 2, none⟩ = _ := (b1.cell (p := ⟨g, j * 4 + 2, none⟩) hglt).trans HCW.out.2.2.1
      have yw1_3 : w1.cell? ⟨g, j * 4 + 3, none⟩ = _ := (b1.cell (p := ⟨g, j * 4 + 3, none⟩) hglt).trans HCW.out.2.2.2.1
      clear hb1
      go_wp2_with fail
      have zz2 := b1.size
      go_region_held (fun w' => w'.cell? ⟨g, j * 4 + 2, none⟩ = some (.string T2))
        (first | go_keep | (refine (hb2.cell (p := ⟨g, j * 4 + 2, none⟩) (by simp; omega)).trans ?_; assumption))
        ((go_at_call 44; refine (qc2.out _).mono ?_; rintro e w2 ⟨rfl, hb2⟩))
      have b2 := b1.drew.trans (hb2.mono b1.drew.size)
      have yw2_3 : w2.cell? ⟨g, j * 4 + 3, none⟩ = _ := (b2.cell (p := ⟨g, j * 4 + 3, none⟩) hglt).trans HCW.out.2.2.2.1
      clear hb2
      go_wp2
      go_roundw
      case rel => exact ⟨j + 1, kk + (1 + 1 + 1 + 1), by omega, by congr 1 <;> omega, by go_num, HK.out, by omega, b2⟩
      case measure => simp [intOf]; omega
    · have e : j = n := by omega
      subst e
      have hke : kk = k + C := by rw [hkk.out, HL.out.2, cntTo_all shTurn d j (Nat.le_of_eq HL.out.1)]
      have HH : Hid (kk = k + C) := hke
      clear hke hkk
      go_wp2
      go_ret
      exact ⟨by rw [← HH.out]; rfl, hbel⟩

end Go.Proofs.Ytdmgknmlgipnpaa
