/-
  The marks of the type Link. By program (mkgen.py).
-/
import Derived.Test.YtdmgknmlgipnpaaTyLink
import Derived.Test.YtdmgknmlgipnpaaMkB
namespace Go.Proofs.Ytdmgknmlgipnpaa
open Go.RowKit
set_option linter.unusedVariables false

theorem openO_Link {w : World} {B : Nat} {cs : List Value} {d : shLink.D} {F : List Nat} (h : Own shLink w B cs d F) :
    cs = [.string (d.1), .int .i64 (d.2.1)] ∧ F = [] := by
  obtain ⟨_, _, G0, _, rfl, rfl, h0, _, _, G1, _, rfl, rfl, h1, hE⟩ := h
  obtain ⟨⟨rfl, _⟩, rfl⟩ := h0
  obtain ⟨rfl, rfl⟩ := h1
  obtain ⟨rfl, rfl⟩ := hE
  exact ⟨rfl, by simp⟩

theorem cnt_Link (d : shLink.D) : shLink.cnt d = 1 + 1 := by
  show 1 + (1 + (0)) = _
  omega

set_option maxRecDepth 100000 in
set_option maxHeartbeats 2000000 in
theorem markLinkS_own (a : Option Addr) (n cap B k : Nat) (d : List shLink.D) (F : List Nat) (w : World) (ho : Own (.sl shLink) w B [.slice a n cap] d F) (hnd : F.Nodup) (hk0 : 1 ≤ k) (hk : k + Sh.cnt (.sl shLink) d ≤ 1000000000000) :
    Calls Try.prog 42 #[.slice a n cap, .int .i64 k] w fun e w' => e = .returned (.int .i64 ((k + Sh.cnt (.sl shLink) d : Nat) : Int)) ∧ Own (.sl shLink) w' B [.slice a n cap] (Sh.mk (.sl shLink) d k) F ∧ Touch w w' F := by
  obtain ⟨hl, hm, hg⟩ := own_len ho
  obtain ⟨C, hC⟩ : ∃ C, C = Sh.cnt (.sl shLink) d := ⟨_, rfl⟩
  rw [← hC] at hk ⊢
  have HO : Hid (Own (.sl shLink) w B [.slice a n cap] d F ∧ F.Nodup) := ⟨ho, hnd⟩
  have HL : Hid (d.length = n ∧ C = Sh.cnt (.sl shLink) d) := ⟨hl, hC⟩
  clear ho hnd hl hC
  unfold maxLen at hm
  go_enter Try.func42, Try.ntmps42
  go_wp2
  go_loopw [1, 5] (fun m i wr => ∃ j kk : Nat, j ≤ n ∧ m = .int .i64 (kk : Int) ∧ i = .int .i64 j ∧ Hid (kk = k + cntTo shLink d j) ∧ 1 ≤ kk ∧ Hid (Own (.sl shLink) wr B [.slice a n cap] (mkTo shLink d k j) F) ∧ Touch w wr F) (fun _ i _ => n - (intOf i).toNat)
  case atStart => exact ⟨0, k, Nat.zero_le _, rfl, rfl, by show k = _; rw [cntTo_zero]; rfl, hk0, by show Own _ _ _ _ _ _; rw [mkTo_zero]; exact HO.out.1, Touch.refl _ _⟩
  case round =>
    obtain ⟨j, kk, hj, rfl, rfl, hkk, hkk1, ho, ht⟩ := hrel
    by_cases hlt : j < n
    · obtain ⟨g, rfl⟩ := hg.resolve_left (by omega)
      obtain ⟨t, cur, c, x, f, hh, hx, hoe, hnf, hgf, hfF, hgF, hBg, hcur, hclose⟩ := own_elem ho.out HO.out.2 j hlt
      have hxd : shLink.at d j = some x := by
        have h1 : j < d.length := by rw [HL.out.1]; exact hlt
        have h2 : shLink.at d j = some d[j] := List.getElem?_eq_getElem h1
        have h3 := mkTo_at shLink d k j _ h2
        rw [h2, ← h3]; exact hx
      have hsucc := cntTo_succ shLink d j x hxd
      have hle := cntTo_le shLink d (j + 1)
      have hms := mkTo_set shLink d k j x hxd
      rw [← hkk.out] at hms
      rw [cnt_Link] at hsucc
      obtain ⟨rfl, rfl⟩ := openO_Link hoe
      have hkn : kk + (1 + 1) ≤ 1000000000000 := by have h1 := hkk.out; have h2 := HL.out.2; rw [← h2] at hle; omega
      have HK : Hid (kk + (1 + 1) = k + cntTo shLink d (j + 1)) := by show _ = _; rw [hsucc, hkk.out]; omega
      have hq0 : cur[j * 2]? = some (.string (x.1)) := hcur 0 (by decide)
      have hq1 : cur[j * 2 + 1]? = some (.int .i64 (x.2.1)) := hcur 1 (by decide)
      have HQ : Hid (cur[j * 2]? = some (.string (x.1)) ∧ cur[j * 2 + 1]? = some (.int .i64 (x.2.1)) ∧ True) := ⟨hq0, hq1, trivial⟩
      have qc0 : Hid (∀ w' : World, Calls Try.prog 44 #[.int .i64 ((kk : Int))] w' fun e w'' => e = .returned (.string (mtext (kk))) ∧ Below w'.heap.size w' w'') := fun w' => by
        have e : (((kk : Nat)) : Int) = (kk : Int) := by omega
        rw [← e]
        exact markText_any (kk) w' (by omega) (by omega)
      obtain ⟨T0, hT0⟩ : ∃ T, T = mtext (kk) := ⟨_, rfl⟩
      have HT0 : Hid (T0 = mtext (kk)) := hT0
      rw [← hT0] at qc0
      clear hT0
      have HGN : Hid (True) := trivial
      have HMS : Hid (List.set (mkTo shLink d k j) j (shLink.mk x kk) = mkTo shLink d k (j + 1)) := hms
      have HCL : Hid (∀ (w2 : World) (c' : List Value) (x' : shLink.D), Own shLink w2 B c' x' ([]) → w2.heap[g]? = some (.cells (setRow cur.toList (j * shLink.size) c').toArray t (0, 0)) → (∀ y ∈ F, y ≠ g → y ∉ [] → w2.heap[y]? = wr.heap[y]?) → Own (.sl shLink) w2 B [.slice (some ⟨g, 0, none⟩) n cap] (List.set (mkTo shLink d k j) j x') F) := hclose
      obtain ⟨uwr_0, ywr_0⟩ : ∃ u, wr.cell? ⟨g, j * 2, none⟩ = some u := ⟨_, box_cell hh (by exact HQ.out.1)⟩
      have yfwr_0 : wr.frozen? ⟨g, j * 2, none⟩ = false := box_frozen hh
      obtain ⟨uwr_1, ywr_1⟩ : ∃ u, wr.cell? ⟨g, j * 2 + 1, none⟩ = some u := ⟨_, box_cell hh (by exact HQ.out.2.1)⟩
      have yfwr_1 : wr.frozen? ⟨g, j * 2 + 1, none⟩ = false := box_frozen hh
      clear hms hclose hcur hsucc hle hx hxd hoe hgf hq0 hq1
      go_wp2_with fail
      refine (qc0.out _).mono ?_
      rintro e w0 ⟨rfl, hb0⟩
      have tb0 : Touch wr w0 F := Touch.of_below hb0 F
      have hhw0 : w0.heap[g]? = some (.cells (cur) t (0, 0)) := (hb0.block g (lt_heap hh)).trans hh
      have rw0 : Hid (∀ y ∈ F, y ≠ g → y ∉ [] → w0.heap[y]? = wr.heap[y]?) := fun y hy hyg hyf => (hb0.block y (Nat.lt_of_lt_of_le (ho.out.lt y hy).2 (Nat.le_refl _))).trans (rfl)
      have zw0 : wr.heap.size ≤ w0.heap.size := Nat.le_trans (Nat.le_refl _) hb0.size
      have tw0 : Touch w w0 F := ht.trans tb0
      obtain ⟨uw0_0, yw0_0⟩ : ∃ u, w0.cell? ⟨g, j * 2, none⟩ = some u := ⟨_, box_cell hhw0 (by exact HQ.out.1)⟩
      have yfw0_0 : w0.frozen? ⟨g, j * 2, none⟩ = false := box_frozen hhw0
      obtain ⟨uw0_1, yw0_1⟩ : ∃ u, w0.cell? ⟨g, j * 2 + 1, none⟩ = some u := ⟨_, box_cell hhw0 (by exact HQ.out.2.1)⟩
      have yfw0_1 : w0.frozen? ⟨g, j * 2 + 1, none⟩ = false := box_frozen hhw0
      have hfin : Own (.sl shLink) (((w0).setCell ⟨g, j * 2, none⟩ (.string T0)).setCell ⟨g, j * 2 + 1, none⟩ (.int .i64 ((kk : Int) + 1))) B [.slice (some ⟨g, 0, none⟩) n cap] (mkTo shLink d k (j + 1)) F := by
        rw [← HMS.out]
        have l0 : Value.string T0 = Value.string (mtext (kk)) := by rw [HT0.out]
        have l1 : Value.int .i64 ((kk : Int) + 1) = Value.int .i64 (((kk + 1 : Nat)) : Int) := by congr 1 <;> omega
        refine HCL.out _ [.string T0, .int .i64 ((kk : Int) + 1)] _ ?_ ?_ ?_
        · have hb : Own shLink (((w0).setCell ⟨g, j * 2, none⟩ (.string T0)).setCell ⟨g, j * 2 + 1, none⟩ (.int .i64 ((kk : Int) + 1))) B [.string (mtext (kk)), .int .i64 (((kk + 1 : Nat)) : Int)] (shLink.mk x kk) ([]) := own_Link (w := ((w0).setCell ⟨g, j * 2, none⟩ (.string T0)).setCell ⟨g, j * 2 + 1, none⟩ (.int .i64 ((kk : Int) + 1))) (B := B) (d := shLink.mk x kk) (mtext_le _)
          rw [l0, l1]
          exact hb
        · rw [show (((w0).setCell ⟨g, j * 2, none⟩ (.string T0)).setCell ⟨g, j * 2 + 1, none⟩ (.int .i64 ((kk : Int) + 1))).heap[g]? = some (.cells (((cur).setIfInBounds (j * 2) (.string T0)).setIfInBounds (j * 2 + 1) (.int .i64 ((kk : Int) + 1))) t (0, 0)) from box_set (j := j * 2 + 1) (.int .i64 ((kk : Int) + 1)) (box_set (j := j * 2) (.string T0) (hhw0))]
          congr 2
          apply Array.ext'
          simp only [Array.toList_setIfInBounds]
          show _ = setRow cur.toList (j * 2) [.string T0, .int .i64 ((kk : Int) + 1)]
          rw [setRow]
          rw [setRow]
          all_goals (first | rfl | (rw [setRow]; all_goals rfl))
        · intro y hy hyg hyf; exact ((box_other _ hyg).trans ((box_other _ hyg).trans (rw0.out y hy hyg hyf)))
      have HFIN : Hid (Own (.sl shLink) (((w0).setCell ⟨g, j * 2, none⟩ (.string T0)).setCell ⟨g, j * 2 + 1, none⟩ (.int .i64 ((kk : Int) + 1))) B [.slice (some ⟨g, 0, none⟩) n cap] (mkTo shLink d k (j + 1)) F ∧ Touch w (((w0).setCell ⟨g, j * 2, none⟩ (.string T0)).setCell ⟨g, j * 2 + 1, none⟩ (.int .i64 ((kk : Int) + 1))) F) := ⟨hfin, ((tw0.trans (Touch.set _ g _ _ hgF)).trans (Touch.set _ g _ _ hgF))⟩
      clear hfin tw0 hhw0 
      go_wp2
      go_roundw
      case rel => exact ⟨j + 1, kk + (1 + 1), by omega, by congr 1 <;> omega, by go_num, HK.out, by omega, HFIN.out.1, HFIN.out.2⟩
      case measure => simp [intOf]; omega
    · have e : j = n := by omega
      subst e
      have hfin : Own (.sl shLink) wr B [.slice a j cap] (Sh.mk (.sl shLink) d k) F := (congrArg (fun z => Own (.sl shLink) wr B [.slice a j cap] z F) (mkTo_all shLink d k j (Nat.le_of_eq HL.out.1))).mp ho.out
      have hke : kk = k + C := by rw [hkk.out, HL.out.2, cntTo_all shLink d j (Nat.le_of_eq HL.out.1)]
      have HH : Hid (Own (.sl shLink) wr B [.slice a j cap] (Sh.mk (.sl shLink) d k) F ∧ kk = k + C) := ⟨hfin, hke⟩
      clear hfin ho hke hkk
      go_wp2
      go_ret
      exact ⟨by rw [← HH.out.2]; rfl, HH.out.1, ht⟩

set_option maxRecDepth 100000 in
set_option maxHeartbeats 2000000 in
theorem heldLinkS_own (a : Option Addr) (n cap B k : Nat) (d : List shLink.D) (F : List Nat) (w : World) (ho : Own (.sl shLink) w B [.slice a n cap] (Sh.mk (.sl shLink) d k) F) (hnd : F.Nodup) (hk0 : 1 ≤ k) (hk : k + Sh.cnt (.sl shLink) d ≤ 1000000000000) :
    Calls Try.prog 46 #[.slice a n cap, .int .i64 k] w fun e w' => e = .returned (.int .i64 ((k + Sh.cnt (.sl shLink) d : Nat) : Int)) ∧ Below w.heap.size w w' := by
  obtain ⟨hl0, hm, hg⟩ := own_len ho
  have hl : d.length = n := by rw [← hl0]; exact (mkRow_length _ _ _ _).symm
  obtain ⟨C, hC⟩ : ∃ C, C = Sh.cnt (.sl shLink) d := ⟨_, rfl⟩
  rw [← hC] at hk ⊢
  have HO : Hid (Own (.sl shLink) w B [.slice a n cap] (Sh.mk (.sl shLink) d k) F ∧ F.Nodup) := ⟨ho, hnd⟩
  have HL : Hid (d.length = n ∧ C = Sh.cnt (.sl shLink) d) := ⟨hl, hC⟩
  clear ho hnd hl hl0 hC
  unfold maxLen at hm
  go_enter Try.func46, Try.ntmps46
  go_wp2
  go_loopw [1, 5] (fun m i wr => ∃ j kk : Nat, j ≤ n ∧ m = .int .i64 (kk : Int) ∧ i = .int .i64 j ∧ Hid (kk = k + cntTo shLink d j) ∧ 1 ≤ kk ∧ Below w.heap.size w wr) (fun _ i _ => n - (intOf i).toNat)
  case atStart => exact ⟨0, k, Nat.zero_le _, rfl, rfl, by show k = _; rw [cntTo_zero]; rfl, hk0, Below.refl _ _⟩
  case round =>
    obtain ⟨j, kk, hj, rfl, rfl, hkk, hkk1, hbel⟩ := hrel
    by_cases hlt : j < n
    · obtain ⟨g, rfl⟩ := hg.resolve_left (by omega)
      obtain ⟨t, cur, c, x', f, hh, hx', hoe, hnf, hgf, hfF, hgF, hBg, hcur, -⟩ := own_elem HO.out.1 HO.out.2 j hlt
      have hjd : j < d.length := by rw [HL.out.1]; exact hlt
      obtain ⟨x, hxe⟩ : ∃ x, x = d[j] := ⟨_, rfl⟩
      have hxd : shLink.at d j = some x := by rw [hxe]; exact List.getElem?_eq_getElem hjd
      have hxm := mk_at shLink d k j x hxd
      rw [← hkk.out] at hxm
      obtain rfl : shLink.mk x kk = x' := Option.some.inj (hxm.symm.trans hx')
      have hsucc := cntTo_succ shLink d j x hxd
      have hle := cntTo_le shLink d (j + 1)
      rw [cnt_Link] at hsucc
      have hglt := lt_heap hh
      obtain ⟨rfl, rfl⟩ := openO_Link hoe
      have hkn : kk + (1 + 1) ≤ 1000000000000 := by have h1 := hkk.out; have h2 := HL.out.2; rw [← h2] at hle; omega
      have HK : Hid (kk + (1 + 1) = k + cntTo shLink d (j + 1)) := by show _ = _; rw [hsucc, hkk.out]; omega
      obtain ⟨T0, hT0⟩ : ∃ T, T = mtext (kk) := ⟨_, rfl⟩
      have qc0 : Hid (∀ w' : World, Calls Try.prog 44 #[.int .i64 ((kk : Int))] w' fun e w'' => e = .returned (.string T0) ∧ Below w'.heap.size w' w'') := fun w' => by
        have e : (((kk : Nat)) : Int) = (kk : Int) := by omega
        rw [← e, hT0]
        exact markText_any (kk) w' (by omega) (by omega)
      have e0 : Value.string (mtext (kk)) = Value.string T0 := by rw [hT0]
      have cw0 : w.cell? ⟨g, j * 2, none⟩ = some (.string T0) := (box_cell hh (hcur 0 (by decide))).trans (congrArg some e0)
      have ne0 : (T0.toList != T0.toList) = false := by simp
      have e1 : Value.int .i64 (((kk + 1 : Nat)) : Int) = Value.int .i64 ((kk : Int) + 1) := by congr 1 <;> omega
      have cw1 : w.cell? ⟨g, j * 2 + 1, none⟩ = some (.int .i64 ((kk : Int) + 1)) := (box_cell hh (hcur 1 (by decide))).trans (congrArg some e1)
      have ne1 : (((kk : Int) + 1) != ((kk : Int) + 1)) = false := by simp
      clear hh hx' hoe hnf hgf hfF hgF hBg hcur hxd hxm hsucc hle hxe e0 e1 hT0
      have HCW : Hid (w.cell? ⟨g, j * 2, none⟩ = some (.string T0) ∧ w.cell? ⟨g, j * 2 + 1, none⟩ = some (.int .i64 ((kk : Int) + 1)) ∧ True) := ⟨cw0, cw1, trivial⟩
      clear cw0 cw1
      have ywr_0 : wr.cell? ⟨g, j * 2, none⟩ = _ := (hbel.cell (p := ⟨g, j * 2, none⟩) hglt).trans HCW.out.1
      have ywr_1 : wr.cell? ⟨g, j * 2 + 1, none⟩ = _ := (hbel.cell (p := ⟨g, j * 2 + 1, none⟩) hglt).trans HCW.out.2.1
      go_wp2_with fail
      have zz0 := hbel.size
      go_region_held (fun w' => w'.cell? ⟨g, j * 2, none⟩ = some (.string T0))
        (first | go_keep | (refine (hb0.cell (p := ⟨g, j * 2, none⟩) (by simp; omega)).trans ?_; assumption))
        ((go_at_call 44; refine (qc0.out _).mono ?_; rintro e w0 ⟨rfl, hb0⟩))
      have b0 := hbel.drew.trans (hb0.mono hbel.drew.size)
      have yw0_1 : w0.cell? ⟨g, j * 2 + 1, none⟩ = _ := (b0.cell (p := ⟨g, j * 2 + 1, none⟩) hglt).trans HCW.out.2.1
      clear hb0
      go_wp2
      go_roundw
      case rel => exact ⟨j + 1, kk + (1 + 1), by omega, by congr 1 <;> omega, by go_num, HK.out, by omega, b0⟩
      case measure => simp [intOf]; omega
    · have e : j = n := by omega
      subst e
      have hke : kk = k + C := by rw [hkk.out, HL.out.2, cntTo_all shLink d j (Nat.le_of_eq HL.out.1)]
      have HH : Hid (kk = k + C) := hke
      clear hke hkk
      go_wp2
      go_ret
      exact ⟨by rw [← HH.out]; rfl, hbel⟩

end Go.Proofs.Ytdmgknmlgipnpaa
