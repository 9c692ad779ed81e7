/-
  Joined: MkEntry, VEntry, LScan, WScan, LogP, ScT, ScU, Fnd, LFound, WFound.
-/
import Derived.Test.YtkfmpfbhhmmllaaGreatJ8FnExactFound
import Derived.Test.YtkfmpfbhhmmllaaGreatJ1FnExactFound
import Derived.Test.YtkfmpfbhhmmllaaGreatJ11FnExactFound
import Derived.Test.YtkfmpfbhhmmllaaGreatJ7FnExactFound
/- MkEntry: The marks of the type Entry. By program (mkgen.py). -/
namespace Go.Proofs.YtkfmpfbhhmmllaaGreat
open Go.RowKit
set_option linter.unusedVariables false
set_option maxRecDepth 100000

theorem openO_Entry {w : World} {B : Nat} {cs : List Value} {d : shEntry.D} {F : List Nat} (h : Own shEntry w B cs d F) :
    cs = [.int .i64 (d.1), .string (d.2.1)] ∧ F = [] := by
  obtain ⟨_, _, G0, _, rfl, rfl, h0, _, _, G1, _, rfl, rfl, h1, hE⟩ := h
  obtain ⟨rfl, rfl⟩ := h0
  obtain ⟨⟨rfl, _⟩, rfl⟩ := h1
  obtain ⟨rfl, rfl⟩ := hE
  exact ⟨rfl, by simp⟩

theorem cnt_Entry (d : shEntry.D) : shEntry.cnt d = 1 + 1 := by
  show 1 + (1 + (0)) = _
  omega

set_option maxRecDepth 100000 in
set_option maxHeartbeats 2000000 in
theorem markEntryS_own (a : Option Addr) (n cap B k : Nat) (d : List shEntry.D) (F : List Nat) (w : World) (ho : Own (.sl shEntry) w B [.slice a n cap] d F) (hnd : F.Nodup) (hk0 : 1 ≤ k) (hk : k + Sh.cnt (.sl shEntry) d ≤ 1000000000000) :
    Calls Tryz.prog 17 #[.slice a n cap, .int .i64 k] w fun e w' => e = .returned (.int .i64 ((k + Sh.cnt (.sl shEntry) d : Nat) : Int)) ∧ Own (.sl shEntry) w' B [.slice a n cap] (Sh.mk (.sl shEntry) d k) F ∧ Touch w w' F := by
  obtain ⟨hl, hm, hg⟩ := own_len ho
  obtain ⟨C, hC⟩ : ∃ C, C = Sh.cnt (.sl shEntry) d := ⟨_, rfl⟩
  rw [← hC] at hk ⊢
  have HO : Hid (Own (.sl shEntry) w B [.slice a n cap] d F ∧ F.Nodup) := ⟨ho, hnd⟩
  have HL : Hid (d.length = n ∧ C = Sh.cnt (.sl shEntry) d) := ⟨hl, hC⟩
  clear ho hnd hl hC
  unfold maxLen at hm
  go_enter Tryz.func17, Tryz.ntmps17
  go_wp2
  go_loopw [1, 5] (fun m i wr => ∃ j kk : Nat, j ≤ n ∧ m = .int .i64 (kk : Int) ∧ i = .int .i64 j ∧ Hid (kk = k + cntTo shEntry d j) ∧ 1 ≤ kk ∧ Hid (Own (.sl shEntry) wr B [.slice a n cap] (mkTo shEntry d k j) F) ∧ Touch w wr F) (fun _ i _ => n - (intOf i).toNat)
  case atStart => exact ⟨0, k, Nat.zero_le _, rfl, rfl, by show k = _; rw [cntTo_zero]; rfl, hk0, by show Own _ _ _ _ _ _; rw [mkTo_zero]; exact HO.out.1, Touch.refl _ _⟩
  case round =>
    obtain ⟨j, kk, hj, rfl, rfl, hkk, hkk1, ho, ht⟩ := hrel
    by_cases hlt : j < n
    · obtain ⟨g, rfl⟩ := hg.resolve_left (by omega)
      obtain ⟨t, cur, c, x, f, hh, hx, hoe, hnf, hgf, hfF, hgF, hBg, hcur, hclose⟩ := own_elem ho.out HO.out.2 j hlt
      have hxd : shEntry.at d j = some x := by
        have h1 : j < d.length := by rw [HL.out.1]; exact hlt
        have h2 : shEntry.at d j = some d[j] := List.getElem?_eq_getElem h1
        have h3 := mkTo_at shEntry d k j _ h2
        rw [h2, ← h3]; exact hx
      have hsucc := cntTo_succ shEntry d j x hxd
      have hle := cntTo_le shEntry d (j + 1)
      have hms := mkTo_set shEntry d k j x hxd
      rw [← hkk.out] at hms
      rw [cnt_Entry] at hsucc
      obtain ⟨rfl, rfl⟩ := openO_Entry hoe
      have hkn : kk + (1 + 1) ≤ 1000000000000 := by have h1 := hkk.out; have h2 := HL.out.2; rw [← h2] at hle; omega
      have HK : Hid (kk + (1 + 1) = k + cntTo shEntry d (j + 1)) := by show _ = _; rw [hsucc, hkk.out]; omega
      have hq0 : cur[j * 2]? = some (.int .i64 (x.1)) := hcur 0 (by decide)
      have hq1 : cur[j * 2 + 1]? = some (.string (x.2.1)) := hcur 1 (by decide)
      have HQ : Hid (cur[j * 2]? = some (.int .i64 (x.1)) ∧ cur[j * 2 + 1]? = some (.string (x.2.1)) ∧ True) := ⟨hq0, hq1, trivial⟩
      have qc1 : Hid (∀ w' : World, Calls Tryz.prog 45 #[.int .i64 ((kk : Int) + 1)] w' fun e w'' => e = .returned (.string (mtext (kk + 1))) ∧ Below w'.heap.size w' w'') := fun w' => by
        have e : (((kk + 1 : Nat)) : Int) = (kk : Int) + 1 := by omega
        rw [← e]
        exact markText_any (kk + 1) w' (by omega) (by omega)
      obtain ⟨T1, hT1⟩ : ∃ T, T = mtext (kk + 1) := ⟨_, rfl⟩
      have HT1 : Hid (T1 = mtext (kk + 1)) := hT1
      rw [← hT1] at qc1
      clear hT1
      have HGN : Hid (True) := trivial
      have HMS : Hid (List.set (mkTo shEntry d k j) j (shEntry.mk x kk) = mkTo shEntry d k (j + 1)) := hms
      have HCL : Hid (∀ (w2 : World) (c' : List Value) (x' : shEntry.D), Own shEntry w2 B c' x' ([]) → w2.heap[g]? = some (.cells (setRow cur.toList (j * shEntry.size) c').toArray t (0, 0)) → (∀ y ∈ F, y ≠ g → y ∉ [] → w2.heap[y]? = wr.heap[y]?) → Own (.sl shEntry) w2 B [.slice (some ⟨g, 0, none⟩) n cap] (List.set (mkTo shEntry d k j) j x') F) := hclose
      obtain ⟨uwr_0, ywr_0⟩ : ∃ u, wr.cell? ⟨g, j * 2, none⟩ = some u := ⟨_, box_cell hh (by exact HQ.out.1)⟩
      have yfwr_0 : wr.frozen? ⟨g, j * 2, none⟩ = false := box_frozen hh
      obtain ⟨uwr_1, ywr_1⟩ : ∃ u, wr.cell? ⟨g, j * 2 + 1, none⟩ = some u := ⟨_, box_cell hh (by exact HQ.out.2.1)⟩
      have yfwr_1 : wr.frozen? ⟨g, j * 2 + 1, none⟩ = false := box_frozen hh
      clear hms hclose hcur hsucc hle hx hxd hoe hgf hq0 hq1
      go_wp2_with fail
      obtain ⟨W1, hW1⟩ : ∃ W, W = (wr).setCell ⟨g, j * 2, none⟩ (.int .i64 ((kk : Int))) := ⟨_, rfl⟩
      have hhW1 : W1.heap[g]? = some (.cells ((cur).setIfInBounds (j * 2) (.int .i64 ((kk : Int)))) t (0, 0)) := by rw [hW1]; exact box_set (j := j * 2) (.int .i64 ((kk : Int))) (hh)
      have tW1 : Touch w W1 F := by rw [hW1]; exact (ht.trans (Touch.set _ g _ _ hgF))
      have rW1 : Hid (∀ y ∈ F, y ≠ g → y ∉ [] → W1.heap[y]? = wr.heap[y]?) := fun y hy hyg hyf => by rw [hW1]; exact ((box_other _ hyg).trans rfl)
      have zW1 : wr.heap.size ≤ W1.heap.size := by rw [hW1]; simp
      rw [← hW1]
      refine (qc1.out _).mono ?_
      rintro e w1 ⟨rfl, hb1⟩
      have tb1 : Touch W1 w1 F := Touch.of_below hb1 F
      have hhw1 : w1.heap[g]? = some (.cells ((cur).setIfInBounds (j * 2) (.int .i64 ((kk : Int)))) t (0, 0)) := (hb1.block g (lt_heap hhW1)).trans hhW1
      have rw1 : Hid (∀ y ∈ F, y ≠ g → y ∉ [] → w1.heap[y]? = wr.heap[y]?) := fun y hy hyg hyf => (hb1.block y (Nat.lt_of_lt_of_le (ho.out.lt y hy).2 zW1)).trans ((rW1.out y hy hyg hyf))
      have zw1 : wr.heap.size ≤ w1.heap.size := Nat.le_trans zW1 hb1.size
      have tw1 : Touch w w1 F := tW1.trans tb1
      obtain ⟨uw1_0, yw1_0⟩ : ∃ u, w1.cell? ⟨g, j * 2, none⟩ = some u := ⟨_, box_cell hhw1 (by rw [Array.getElem?_setIfInBounds_self_of_lt (by first | exact (Array.getElem?_eq_some_iff.1 HQ.out.1).1 | (simp only [Array.size_setIfInBounds]; exact (Array.getElem?_eq_some_iff.1 HQ.out.1).1))])⟩
      have yfw1_0 : w1.frozen? ⟨g, j * 2, none⟩ = false := box_frozen hhw1
      obtain ⟨uw1_1, yw1_1⟩ : ∃ u, w1.cell? ⟨g, j * 2 + 1, none⟩ = some u := ⟨_, box_cell hhw1 (by rw [Array.getElem?_setIfInBounds_ne (by omega)]; exact HQ.out.2.1)⟩
      have yfw1_1 : w1.frozen? ⟨g, j * 2 + 1, none⟩ = false := box_frozen hhw1
      have hfin : Own (.sl shEntry) ((w1).setCell ⟨g, j * 2 + 1, none⟩ (.string T1)) B [.slice (some ⟨g, 0, none⟩) n cap] (mkTo shEntry d k (j + 1)) F := by
        rw [← HMS.out]
        have l0 : Value.int .i64 ((kk : Int)) = Value.int .i64 (((kk : Nat)) : Int) := by congr 1 <;> omega
        have l1 : Value.string T1 = Value.string (mtext (kk + 1)) := by rw [HT1.out]
        refine HCL.out _ [.int .i64 ((kk : Int)), .string T1] _ ?_ ?_ ?_
        · have hb : Own shEntry ((w1).setCell ⟨g, j * 2 + 1, none⟩ (.string T1)) B [.int .i64 (((kk : Nat)) : Int), .string (mtext (kk + 1))] (shEntry.mk x kk) ([]) := own_Entry (w := (w1).setCell ⟨g, j * 2 + 1, none⟩ (.string T1)) (B := B) (d := shEntry.mk x kk) (mtext_le _)
          rw [l0, l1]
          exact hb
        · rw [show ((w1).setCell ⟨g, j * 2 + 1, none⟩ (.string T1)).heap[g]? = some (.cells (((cur).setIfInBounds (j * 2) (.int .i64 ((kk : Int)))).setIfInBounds (j * 2 + 1) (.string T1)) t (0, 0)) from box_set (j := j * 2 + 1) (.string T1) (hhw1)]
          congr 2
          apply Array.ext'
          simp only [Array.toList_setIfInBounds]
          show _ = setRow cur.toList (j * 2) [.int .i64 ((kk : Int)), .string T1]
          rw [setRow]
          rw [setRow]
          all_goals (first | rfl | (rw [setRow]; all_goals rfl))
        · intro y hy hyg hyf; exact ((box_other _ hyg).trans (rw1.out y hy hyg hyf))
      have HFIN : Hid (Own (.sl shEntry) ((w1).setCell ⟨g, j * 2 + 1, none⟩ (.string T1)) B [.slice (some ⟨g, 0, none⟩) n cap] (mkTo shEntry d k (j + 1)) F ∧ Touch w ((w1).setCell ⟨g, j * 2 + 1, none⟩ (.string T1)) F) := ⟨hfin, (tw1.trans (Touch.set _ g _ _ hgF))⟩
      clear hfin tw1 hhw1 
      go_wp2
      go_roundw
      case rel => exact ⟨j + 1, kk + (1 + 1), by omega, by congr 1 <;> omega, by go_num, HK.out, by omega, HFIN.out.1, HFIN.out.2⟩
      case measure => simp [intOf]; omega
    · have e : j = n := by omega
      subst e
      have hfin : Own (.sl shEntry) wr B [.slice a j cap] (Sh.mk (.sl shEntry) d k) F := (congrArg (fun z => Own (.sl shEntry) wr B [.slice a j cap] z F) (mkTo_all shEntry d k j (Nat.le_of_eq HL.out.1))).mp ho.out
      have hke : kk = k + C := by rw [hkk.out, HL.out.2, cntTo_all shEntry d j (Nat.le_of_eq HL.out.1)]
      have HH : Hid (Own (.sl shEntry) wr B [.slice a j cap] (Sh.mk (.sl shEntry) d k) F ∧ kk = k + C) := ⟨hfin, hke⟩
      clear hfin ho hke hkk
      go_wp2
      go_ret
      exact ⟨by rw [← HH.out.2]; rfl, HH.out.1, ht⟩

set_option maxRecDepth 100000 in
set_option maxHeartbeats 2000000 in
theorem heldEntryS_own (a : Option Addr) (n cap B k : Nat) (d : List shEntry.D) (F : List Nat) (w : World) (ho : Own (.sl shEntry) w B [.slice a n cap] (Sh.mk (.sl shEntry) d k) F) (hnd : F.Nodup) (hk0 : 1 ≤ k) (hk : k + Sh.cnt (.sl shEntry) d ≤ 1000000000000) :
    Calls Tryz.prog 18 #[.slice a n cap, .int .i64 k] w fun e w' => e = .returned (.int .i64 ((k + Sh.cnt (.sl shEntry) d : Nat) : Int)) ∧ Below w.heap.size w w' := by
  obtain ⟨hl0, hm, hg⟩ := own_len ho
  have hl : d.length = n := by rw [← hl0]; exact (mkRow_length _ _ _ _).symm
  obtain ⟨C, hC⟩ : ∃ C, C = Sh.cnt (.sl shEntry) d := ⟨_, rfl⟩
  rw [← hC] at hk ⊢
  have HO : Hid (Own (.sl shEntry) w B [.slice a n cap] (Sh.mk (.sl shEntry) d k) F ∧ F.Nodup) := ⟨ho, hnd⟩
  have HL : Hid (d.length = n ∧ C = Sh.cnt (.sl shEntry) d) := ⟨hl, hC⟩
  clear ho hnd hl hl0 hC
  unfold maxLen at hm
  go_enter Tryz.func18, Tryz.ntmps18
  go_wp2
  go_loopw [1, 5] (fun m i wr => ∃ j kk : Nat, j ≤ n ∧ m = .int .i64 (kk : Int) ∧ i = .int .i64 j ∧ Hid (kk = k + cntTo shEntry d j) ∧ 1 ≤ kk ∧ Below w.heap.size w wr) (fun _ i _ => n - (intOf i).toNat)
  case atStart => exact ⟨0, k, Nat.zero_le _, rfl, rfl, by show k = _; rw [cntTo_zero]; rfl, hk0, Below.refl _ _⟩
  case round =>
    obtain ⟨j, kk, hj, rfl, rfl, hkk, hkk1, hbel⟩ := hrel
    by_cases hlt : j < n
    · obtain ⟨g, rfl⟩ := hg.resolve_left (by omega)
      obtain ⟨t, cur, c, x', f, hh, hx', hoe, hnf, hgf, hfF, hgF, hBg, hcur, -⟩ := own_elem HO.out.1 HO.out.2 j hlt
      have hjd : j < d.length := by rw [HL.out.1]; exact hlt
      obtain ⟨x, hxe⟩ : ∃ x, x = d[j] := ⟨_, rfl⟩
      have hxd : shEntry.at d j = some x := by rw [hxe]; exact List.getElem?_eq_getElem hjd
      have hxm := mk_at shEntry d k j x hxd
      rw [← hkk.out] at hxm
      obtain rfl : shEntry.mk x kk = x' := Option.some.inj (hxm.symm.trans hx')
      have hsucc := cntTo_succ shEntry d j x hxd
      have hle := cntTo_le shEntry d (j + 1)
      rw [cnt_Entry] at hsucc
      have hglt := lt_heap hh
      obtain ⟨rfl, rfl⟩ := openO_Entry hoe
      have hkn : kk + (1 + 1) ≤ 1000000000000 := by have h1 := hkk.out; have h2 := HL.out.2; rw [← h2] at hle; omega
      have HK : Hid (kk + (1 + 1) = k + cntTo shEntry d (j + 1)) := by show _ = _; rw [hsucc, hkk.out]; omega
      have e0 : Value.int .i64 (((kk : Nat)) : Int) = Value.int .i64 ((kk : Int)) := by congr 1 <;> omega
      have cw0 : w.cell? ⟨g, j * 2, none⟩ = some (.int .i64 ((kk : Int))) := (box_cell hh (hcur 0 (by decide))).trans (congrArg some e0)
      have ne0 : (((kk : Int)) != ((kk : Int))) = false := by simp
      obtain ⟨T1, hT1⟩ : ∃ T, T = mtext (kk + 1) := ⟨_, rfl⟩
      have qc1 : Hid (∀ w' : World, Calls Tryz.prog 45 #[.int .i64 ((kk : Int) + 1)] w' fun e w'' => e = .returned (.string T1) ∧ Below w'.heap.size w' w'') := fun w' => by
        have e : (((kk + 1 : Nat)) : Int) = (kk : Int) + 1 := by omega
        rw [← e, hT1]
        exact markText_any (kk + 1) w' (by omega) (by omega)
      have e1 : Value.string (mtext (kk + 1)) = Value.string T1 := by rw [hT1]
      have cw1 : w.cell? ⟨g, j * 2 + 1, none⟩ = some (.string T1) := (box_cell hh (hcur 1 (by decide))).trans (congrArg some e1)
      have ne1 : (T1.toList != T1.toList) = false := by simp
      clear hh hx' hoe hnf hgf hfF hgF hBg hcur hxd hxm hsucc hle hxe e0 e1 hT1
      have HCW : Hid (w.cell? ⟨g, j * 2, none⟩ = some (.int .i64 ((kk : Int))) ∧ w.cell? ⟨g, j * 2 + 1, none⟩ = some (.string T1) ∧ True) := ⟨cw0, cw1, trivial⟩
      clear cw0 cw1
      have ywr_0 : wr.cell? ⟨g, j * 2, none⟩ = _ := (hbel.cell (p := ⟨g, j * 2, none⟩) hglt).trans HCW.out.1
      have ywr_1 : wr.cell? ⟨g, j * 2 + 1, none⟩ = _ := (hbel.cell (p := ⟨g, j * 2 + 1, none⟩) hglt).trans HCW.out.2.1
      go_wp2_with fail
      have zz1 := hbel.size
      go_region_held (fun w' => w'.cell? ⟨g, j * 2 + 1, none⟩ = some (.string T1))
        (first | go_keep | (refine (hb1.cell (p := ⟨g, j * 2 + 1, none⟩) (by simp; omega)).trans ?_; assumption))
        ((go_at_call 45; refine (qc1.out _).mono ?_; rintro e w1 ⟨rfl, hb1⟩))
      have b1 := hbel.drew.trans (hb1.mono hbel.drew.size)
      clear hb1
      go_wp2
      go_roundw
      case rel => exact ⟨j + 1, kk + (1 + 1), by omega, by congr 1 <;> omega, by go_num, HK.out, by omega, b1⟩
      case measure => simp [intOf]; omega
    · have e : j = n := by omega
      subst e
      have hke : kk = k + C := by rw [hkk.out, HL.out.2, cntTo_all shEntry d j (Nat.le_of_eq HL.out.1)]
      have HH : Hid (kk = k + C) := hke
      clear hke hkk
      go_wp2
      go_ret
      exact ⟨by rw [← HH.out]; rfl, hbel⟩

end Go.Proofs.YtkfmpfbhhmmllaaGreat

/- VEntry: The helpers of the exact laws for slices of entries, a slice being one value. -/
namespace Go.Proofs.YtkfmpfbhhmmllaaGreat
open Go.RowKit
set_option linter.unusedVariables false
set_option maxRecDepth 100000

theorem szEntryS_v (v : Value) (d : List shEntry.D) (left : Int) (w : World) (hr : Reads (.sl shEntry) w [v] d) (h0 : 0 ≤ left) (h1 : left ≤ 1048576) :
    Calls Tryz.prog 19 #[v, .int .i64 left] w fun e w' => e = .returned (.int .i64 (szAns (Sh.sz (.sl shEntry) d) left)) ∧ Below w.heap.size w w' := by
  obtain ⟨a, c, rfl, _, _⟩ := reads_val hr
  exact szEntryS_any a _ c d left w hr h0 h1

theorem toEntryS_v (v : Value) (d : List shEntry.D) (w : World) (hr : Reads (.sl shEntry) w [v] d) (hs : Sh.sz (.sl shEntry) d ≤ 1048576) :
    Calls Tryz.prog 25 #[v] w fun e w' => ∃ v' F, e = .returned v' ∧ Own (.sl shEntry) w' w.heap.size [v'] d F ∧ F.Nodup ∧ Below w.heap.size w w' := by
  obtain ⟨a, c, rfl, _, _⟩ := reads_val hr
  refine (toEntryS_own a _ c d w hr hs).mono ?_
  rintro e w' ⟨g, F, rfl, ho, hn, hb⟩
  exact ⟨_, F, rfl, ho, hn, hb⟩

theorem eqEntryS_v (v1 v2 : Value) (d : List shEntry.D) (w : World) (h1 : Reads (.sl shEntry) w [v1] d) (h2 : Reads (.sl shEntry) w [v2] d) (hs : Sh.sz (.sl shEntry) d ≤ 1048576) :
    Calls Tryz.prog 14 #[v1, v2] w fun e w' => e = .returned (.bool true) ∧ Below w.heap.size w w' := by
  obtain ⟨a, c, rfl, _, _⟩ := reads_val h1
  obtain ⟨b, c2, rfl, _, _⟩ := reads_val h2
  exact eqEntryS_reads a b _ c c2 d w h1 h2 hs

theorem markEntryS_v (v : Value) (B : Nat) (k : Int) (kn : Nat) (d : List shEntry.D) (F : List Nat) (w : World) (hkn : k = kn) (ho : Own (.sl shEntry) w B [v] d F) (hnd : F.Nodup) (hk0 : 1 ≤ kn) (hk : kn + Sh.cnt (.sl shEntry) d ≤ 1000000000000) :
    Calls Tryz.prog 17 #[v, .int .i64 k] w fun e w' => e = .returned (.int .i64 ((kn + Sh.cnt (.sl shEntry) d : Nat) : Int)) ∧ Own (.sl shEntry) w' B [v] (Sh.mk (.sl shEntry) d kn) F ∧ Touch w w' F := by
  obtain ⟨a, c, rfl, _, _⟩ := own_val ho
  subst hkn
  exact markEntryS_own a _ c B kn d F w ho hnd hk0 hk

theorem heldEntryS_v (v : Value) (B : Nat) (k : Int) (kn : Nat) (d : List shEntry.D) (F : List Nat) (w : World) (hkn : k = kn) (ho : Own (.sl shEntry) w B [v] (Sh.mk (.sl shEntry) d kn) F) (hnd : F.Nodup) (hk0 : 1 ≤ kn) (hk : kn + Sh.cnt (.sl shEntry) d ≤ 1000000000000) :
    Calls Tryz.prog 18 #[v, .int .i64 k] w fun e w' => e = .returned (.int .i64 ((kn + Sh.cnt (.sl shEntry) d : Nat) : Int)) ∧ Below w.heap.size w w' := by
  obtain ⟨a, c, rfl, _, _⟩ := own_val ho
  subst hkn
  have e : (Sh.mk (.sl shEntry) d kn).length = d.length := mkRow_length _ _ _ _
  rw [e] at ho ⊢
  exact heldEntryS_own a _ c B kn d F w ho hnd hk0 hk

theorem wdS_Entry : Sh.wd (.sl shEntry) = 2 := rfl

theorem cntS_Entry (d : List shEntry.D) (h : Sh.sz (.sl shEntry) d ≤ 1048576) : Sh.cnt (.sl shEntry) d ≤ 1000000000 := by
  have h1 := Sh.cnt_le (.sl shEntry) d
  rw [wdS_Entry] at h1
  omega

end Go.Proofs.YtkfmpfbhhmmllaaGreat

/- LScan: The walk of the law FnExactScan over the contracts of its two functions. By program (lawgen3.py). -/
namespace Go.Proofs.YtkfmpfbhhmmllaaGreat
open Go.RowKit
set_option linter.unusedVariables false
set_option maxRecDepth 100000


end Go.Proofs.YtkfmpfbhhmmllaaGreat

/- WScan: The law FnExactScan over the contracts of its two functions. -/
namespace Go.Proofs.YtkfmpfbhhmmllaaGreat
open Go.RowKit
set_option linter.unusedVariables false
set_option maxRecDepth 100000

/-- What a list of entries holds. -/
def bulkE (l : List EntD) : Nat := (l.map fun x => 1 + ByteArray.size x.2.1).sum

theorem bulkE_snoc (l : List EntD) (x : EntD) : bulkE (l ++ [x]) = bulkE l + (1 + ByteArray.size x.2.1) := by simp [bulkE]

theorem bulkE_sz (l : List EntD) : Sh.sz (.sl shEntry) l = bulkE l := by
  show List.length (α := EntD) l + (List.map shEntry.sz l).sum = bulkE l
  induction l with
  | nil => rfl
  | cons a l ih =>
    have h3 : shEntry.sz a = ByteArray.size a.2.1 := sz_Entry a
    have e1 : bulkE (a :: l) = 1 + ByteArray.size a.2.1 + bulkE l := by simp [bulkE]
    have e2 : List.length (α := EntD) (a :: l) + (List.map shEntry.sz (a :: l)).sum = (List.length (α := EntD) l + 1) + (shEntry.sz a + (List.map shEntry.sz l).sum) := rfl
    refine e2.trans ?_
    have ih' : List.length (α := EntD) l + (List.map shEntry.sz l).sum = bulkE l := ih
    omega

/-- Where the code is 0 the next place is behind the text. -/
theorem fr_next (zs : List Int) (hz : Byt zs) (p : Nat) (h : (frAns zs (p : Int)).2.2.2 = 0) : (frAns zs (p : Int)).2.2.1 = ((p + 10 + (frAns zs (p : Int)).2.1.size : Nat) : Int) ∧ p + 10 + (frAns zs (p : Int)).2.1.size ≤ zs.length := by
  unfold frAns at h ⊢
  have eP : ((p : Int)).toNat = p := by omega
  rw [eP] at h ⊢
  have hs := gnum2_bd zs hz p
  split at h
  · simp at h
  rename_i h1
  rw [if_neg h1]
  split at h
  · simp at h
  rename_i h2
  rw [if_neg h2]
  split at h
  · simp at h
  rename_i h3
  rw [if_neg h3]
  split at h
  · simp at h
  rename_i h4
  rw [if_neg h4]
  split at h
  · simp at h
  rename_i h5
  rw [if_neg h5]
  split at h
  · rename_i h6
    rw [if_pos h6]
    have e : (strOfNums (cutL zs (p + 10) (gnum zs p 2).toNat)).size = (gnum zs p 2).toNat := by rw [strOfNums_size, cutL_len _ _ _ (by omega)]
    refine ⟨?_, ?_⟩
    · show (p : Int) + 10 + gnum zs p 2 = ((p + 10 + (strOfNums (cutL zs (p + 10) (gnum zs p 2).toNat)).size : Nat) : Int)
      rw [e]; omega
    · show p + 10 + (strOfNums (cutL zs (p + 10) (gnum zs p 2).toNat)).size ≤ _
      rw [e]; omega
  · simp at h

theorem scan_bulk (zs : List Int) (hz : Byt zs) : ∀ (f : Nat) (acc : List EntD) (p : Nat), p ≤ zs.length → bulkE acc ≤ p → bulkE (scanL zs f acc p).1 ≤ zs.length
  | 0, acc, p, h1, h2 => by show bulkE acc ≤ _; omega
  | f + 1, acc, p, h1, h2 => by
    cases hg : goesOn zs acc p with
    | false => rw [scanL_end zs (f + 1) acc p hg]; show bulkE acc ≤ _; omega
    | true =>
      rw [scanL_on zs (f + 1) acc p hg (by omega)]
      have hc : (frAns zs (p : Int)).2.2.2 = 0 := by
        unfold goesOn at hg
        simp only [Bool.and_eq_true, decide_eq_true_eq] at hg
        exact hg.1
      have hn := fr_next zs hz p hc
      have e : ((frAns zs (p : Int)).2.2.1).toNat = p + 10 + (frAns zs (p : Int)).2.1.size := by rw [hn.1]; omega
      refine scan_bulk zs hz f _ _ ?_ ?_
      · omega
      · rw [bulkE_snoc, e]
        show bulkE acc + (1 + (frAns zs (p : Int)).2.1.size) ≤ _
        omega

end Go.Proofs.YtkfmpfbhhmmllaaGreat

/- LogP: A log: the records of a list of entries, one behind the other (plain facts). -/
namespace Go.Proofs.YtkfmpfbhhmmllaaGreat
open Go.RowKit
set_option linter.unusedVariables false
set_option maxRecDepth 100000

def recL (x : EntD) : List Int := frameL x.1 (sB x.2.1)

theorem recL_len (x : EntD) : (recL x).length = 10 + ByteArray.size x.2.1 := by unfold recL; rw [frameL_len, sB_len]
theorem byt_recL (x : EntD) : Byt (recL x) := byt_frameL _ _ (byt_sB _)

/-- The records of the first k. -/
def logTo (d : List EntD) (k : Nat) : List Int := (d.take k).flatMap recL

def logL (d : List EntD) : List Int := d.flatMap recL

theorem logTo_zero (d : List EntD) : logTo d 0 = [] := by simp [logTo]
theorem logTo_all (d : List EntD) (k : Nat) (h : d.length ≤ k) : logTo d k = logL d := by unfold logTo logL; rw [List.take_of_length_le h]

theorem logTo_succ (d : List EntD) (k : Nat) (x : EntD) (h : d[k]? = some x) : logTo d (k + 1) = logTo d k ++ recL x := by
  have hk : k < d.length := (List.getElem?_eq_some_iff.1 h).1
  have hx : d[k] = x := (List.getElem?_eq_some_iff.1 h).2
  unfold logTo
  rw [List.take_succ_eq_append_getElem hk, hx, List.flatMap_append]
  simp

theorem logTo_le (d : List EntD) (k : Nat) : (logTo d k).length ≤ (logL d).length := by
  unfold logTo logL
  conv => rhs; rw [← List.take_append_drop k d, List.flatMap_append, List.length_append]
  omega

theorem byt_flat (d : List EntD) : Byt (d.flatMap recL) := by
  rw [byt_iff]
  intro z hz
  obtain ⟨x, _, hx⟩ := List.mem_flatMap.1 hz
  exact (byt_iff _).1 (byt_recL x) z hx

theorem byt_logTo (d : List EntD) (k : Nat) : Byt (logTo d k) := byt_flat _
theorem byt_logL (d : List EntD) : Byt (logL d) := byt_flat _

theorem ents_all : ∀ (l : List EntD) (p : Option Int), entsFrom p l = true → ∀ x ∈ l, entB x.1 (ByteArray.size x.2.1) = true
  | [], _, _, x, hx => by cases hx
  | y :: l, p, h, x, hx => by
    simp only [entsFrom, Bool.and_eq_true] at h
    rcases List.mem_cons.1 hx with rfl | hx
    · exact h.1.1
    · exact ents_all l _ h.2 x hx

theorem ents_at (d : List EntD) (h : entsB d = true) (k : Nat) (x : EntD) (hx : d[k]? = some x) : entB x.1 (ByteArray.size x.2.1) = true :=
  ents_all d none h x (List.mem_of_getElem? hx)

theorem own_slice {w : World} {B n : Nat} {e : TypeId} {size : Nat} {v : Value} {xs : List Value} (h : w.ownsRow B e size v n xs) : ∃ a c, v = .slice a n c := by
  rcases h.2 with ⟨h1, h2⟩ | ⟨g, cap, cur, hv, _⟩
  · exact ⟨none, 0, by rw [h1, h2]⟩
  · exact ⟨_, _, hv⟩

end Go.Proofs.YtkfmpfbhhmmllaaGreat

/- ScT: Scanning what was written: the records are found again; of a torn log those that are all there (plain facts). -/
namespace Go.Proofs.YtkfmpfbhhmmllaaGreat
open Go.RowKit
set_option linter.unusedVariables false
set_option maxRecDepth 100000

theorem gnum_cutP (zs : List Int) (P m q : Nat) : ∀ k, q + k ≤ m → gnum (cutL zs P m) q k = gnum zs (P + q) k
  | 0, _ => rfl
  | k + 1, h => by
    show gnum (cutL zs P m) q k * 256 + (cutL zs P m)[q + k]?.getD 0 = gnum zs (P + q) k * 256 + zs[P + q + k]?.getD 0
    rw [gnum_cutP zs P m q k (by omega), cutL_at zs P m (q + k) (by omega), Nat.add_assoc]

theorem str_sB (s : ByteArray) : strOfNums (sB s) = s := by
  apply ByteArray.ext
  apply Array.toList_inj.1
  rw [strOfNums_data]
  unfold sB
  rw [List.map_map]
  conv => rhs; rw [← List.map_id s.data.toList]
  refine List.map_congr_left fun b _ => ?_
  show UInt8.ofNat ((b.toNat : Int)).toNat = b
  simp

theorem frame_list (x : Int) (t : List Int) : frameL x t = [(t.length : Int) / 256 % 256, (t.length : Int) / 1 % 256, x / 16777216 % 256, x / 65536 % 256, x / 256 % 256, x / 1 % 256,
    crcI (headL x t.length ++ t) / 16777216 % 256, crcI (headL x t.length ++ t) / 65536 % 256, crcI (headL x t.length ++ t) / 256 % 256, crcI (headL x t.length ++ t) / 1 % 256] ++ t := by
  unfold frameL
  rw [pdig4]
  conv => lhs; unfold headL
  rw [pdig2, pdig4]
  rfl

theorem frame_size (x : Int) (t : List Int) (h : t.length < 65536) : gnum (frameL x t) 0 2 = (t.length : Int) := by
  rw [frame_list]
  obtain ⟨n, hn⟩ : ∃ n, n = t.length := ⟨_, rfl⟩
  rw [← hn] at h ⊢
  simp [gnum]
  omega

theorem frame_num (x : Int) (t : List Int) (h0 : 0 ≤ x) (h : x < 4294967296) : gnum (frameL x t) 2 4 = x := by
  rw [frame_list]
  obtain ⟨C, hC⟩ : ∃ C, C = crcI (headL x t.length ++ t) := ⟨_, rfl⟩
  rw [← hC]
  simp [gnum]
  omega

/-- A record that stands at p is read. -/
theorem fr_rec (zs : List Int) (hz : Byt zs) (p : Nat) (x : Int) (t : List Int) (s : Nat) (hs : t.length = s) (hc : cutL zs p (10 + s) = frameL x t) (hp : p + 10 + s ≤ zs.length) (h1 : 1 ≤ s) (h2 : s ≤ 1000) (h3 : 1 ≤ x) (h4 : x ≤ 1000000000) :
    frAns zs (p : Int) = (x, strOfNums t, (p : Int) + 10 + (s : Int), 0) := by
  have g1 : gnum zs p 2 = (s : Int) := by
    have e := gnum_cutP zs p (10 + s) 0 2 (by omega)
    rw [hc, frame_size x t (by omega), hs] at e
    exact e.symm
  have g2 : gnum zs (p + 2) 4 = x := by
    have e := gnum_cutP zs p (10 + s) 2 4 (by omega)
    rw [hc, frame_num x t (by omega) (by omega)] at e
    exact e.symm
  have ht : cutL zs (p + 10) s = t := by
    have e := cutL_split zs p 10 s
    rw [hc] at e
    have e2 : frameL x t = (headL x t.length ++ pdig (crcI (headL x t.length ++ t)) 4 4) ++ t := rfl
    rw [e2] at e
    have hl : (headL x t.length ++ pdig (crcI (headL x t.length ++ t)) 4 4).length = (cutL zs p 10).length := by
      rw [cutL_len _ _ _ (by omega), List.length_append, headL_len, pdig_len]
    exact ((List.append_inj e hl).2).symm
  have h5 := (frame_at zs hz p s (by omega) g1).1 (by rw [g2, ht, hc])
  have eP : ((p : Int)).toNat = p := by omega
  have es : ((s : Int)).toNat = s := by omega
  unfold frAns
  rw [eP, g1, g2, es, if_neg (by omega), if_neg (by omega), if_neg (by omega), if_neg (by omega), if_neg (by omega), if_pos h5, ht]

/-- A record of which a part is missing is not read. -/
theorem fr_torn (zs : List Int) (p m : Nat) (x : Int) (t : List Int) (hl : zs.length = p + m) (hm : m < 10 + t.length) (hc : cutL zs p m = (frameL x t).take m) (ht : t.length ≤ 1000) : (frAns zs (p : Int)).2.2.2 ≠ 0 := by
  have eP : ((p : Int)).toNat = p := by omega
  unfold frAns
  rw [eP, if_neg (by omega)]
  by_cases h10 : m < 10
  · rw [if_pos (by omega)]; simp
  · rw [if_neg (by omega)]
    have g1 : gnum zs p 2 = (t.length : Int) := by
      have e := gnum_cutP zs p m 0 2 (by omega)
      rw [hc] at e
      have e2 : gnum ((frameL x t).take m) 0 2 = gnum (frameL x t) 0 2 := by
        have := gnum_cutP (frameL x t) 0 m 0 2 (by omega)
        simpa [cutL] using this
      rw [e2, frame_size x t (by omega)] at e
      exact e.symm
    rw [g1]
    split
    · simp
    · rw [if_pos (by omega)]; simp

end Go.Proofs.YtkfmpfbhhmmllaaGreat

/- ScU: What Scan finds of a log that is cut off anywhere (plain facts). -/
namespace Go.Proofs.YtkfmpfbhhmmllaaGreat
open Go.RowKit
set_option linter.unusedVariables false
set_option maxRecDepth 100000

theorem ents_from (d : List EntD) (h : entsB d = true) : ∀ i, i ≤ d.length → entsFrom (prevN d i) (d.drop i) = true
  | 0, _ => h
  | i + 1, hi => by
    have ih := ents_from d h i (by omega)
    have hx : d[i]? = some d[i] := List.getElem?_eq_getElem (by omega)
    rw [ents_step d i _ hx] at ih
    simp only [Bool.and_eq_true] at ih
    exact ih.2

theorem ents_link (d : List EntD) (h : entsB d = true) (i : Nat) (x : EntD) (hx : d[i]? = some x) : linkB (prevN d i) x.1 = true := by
  have hi : i < d.length := (List.getElem?_eq_some_iff.1 hx).1
  have ih := ents_from d h i (by omega)
  rw [ents_step d i _ hx] at ih
  simp only [Bool.and_eq_true] at ih
  exact ih.1.2

theorem lastNum_take (d : List EntD) (i : Nat) (hi : i ≤ d.length) : lastNum (d.take i) = prevN d i := by
  unfold lastNum prevN
  rw [List.length_take, Nat.min_eq_left hi]
  by_cases h : i = 0
  · rw [if_pos h, if_pos h]
  · rw [if_neg h, if_neg h, List.getElem?_take_of_lt (by omega)]

theorem log_split (d : List EntD) (i : Nat) (x : EntD) (hx : d[i]? = some x) : logL d = logTo d i ++ (recL x ++ (d.drop (i + 1)).flatMap recL) := by
  have hi : i < d.length := (List.getElem?_eq_some_iff.1 hx).1
  have e : d[i] = x := (List.getElem?_eq_some_iff.1 hx).2
  unfold logL logTo
  conv => lhs; rw [← List.take_append_drop i d, List.flatMap_append, List.drop_eq_getElem_cons hi, e]
  simp

theorem cut_whole (A R Q : List Int) (k : Nat) (h : A.length + R.length ≤ k) : cutL ((A ++ (R ++ Q)).take k) A.length R.length = R := by
  unfold cutL
  rw [List.drop_take, List.drop_left, List.take_take, Nat.min_eq_left (by omega), List.take_left]

theorem cut_part (A R Q : List Int) (m : Nat) (h : m ≤ R.length) : cutL ((A ++ (R ++ Q)).take (A.length + m)) A.length m = R.take m := by
  unfold cutL
  rw [List.drop_take, List.drop_left, List.take_take, Nat.add_sub_cancel_left, Nat.min_self, List.take_append_of_le_length h]

theorem byt_take (l : List Int) (h : Byt l) (k : Nat) : Byt (l.take k) := by
  rw [byt_iff] at *
  exact fun x hx => h x (List.mem_of_mem_take hx)

theorem not_on (zs : List Int) (acc : List EntD) (p : Nat) (h : (frAns zs (p : Int)).2.2.2 ≠ 0) : goesOn zs acc p = false := by
  unfold goesOn; simp [h]

theorem scan_from (d : List EntD) (hd : entsB d = true) (k : Nat) (hk : k ≤ (logL d).length) : ∀ (r i f : Nat), r + i = d.length → (logTo d i).length ≤ k → k + 1 ≤ f + (logTo d i).length →
    ∃ j, j ≤ d.length ∧ scanL ((logL d).take k) f (d.take i) (logTo d i).length = (d.take j, (logTo d j).length) ∧ (logTo d j).length ≤ k ∧ (j < d.length → k < (logTo d (j + 1)).length)
  | r, i, f, hr, hp, hf => by
    have hlen : ((logL d).take k).length = k := by rw [List.length_take]; omega
    have hz : Byt ((logL d).take k) := byt_take _ (byt_logL d) k
    by_cases hi : i < d.length
    · have hx : d[i]? = some d[i] := List.getElem?_eq_getElem hi
      obtain ⟨x, ex⟩ : ∃ x, d[i] = x := ⟨_, rfl⟩
      rw [ex] at hx
      have hok := (entB_iff _ _).1 (ents_at d hd i x hx)
      have hs := log_split d i x hx
      have hsu := logTo_succ d i x hx
      have hrl := recL_len x
      have hsl : (logTo d (i + 1)).length = (logTo d i).length + (10 + ByteArray.size x.2.1) := by rw [hsu, List.length_append, hrl]
      by_cases hin : (logTo d (i + 1)).length ≤ k
      · have hc : cutL ((logL d).take k) (logTo d i).length (10 + ByteArray.size x.2.1) = frameL x.1 (sB x.2.1) := by
          have := cut_whole (logTo d i) (recL x) ((d.drop (i + 1)).flatMap recL) k (by rw [hrl]; omega)
          rw [← hs, hrl] at this
          exact this
        have ha := fr_rec _ hz (logTo d i).length x.1 (sB x.2.1) (ByteArray.size x.2.1) (sB_len _) hc (by rw [hlen]; omega) hok.2.2.1 hok.2.2.2 hok.1 hok.2.1
        rw [str_sB] at ha
        have hg : goesOn ((logL d).take k) (d.take i) (logTo d i).length = true := by
          unfold goesOn
          rw [ha, lastNum_take d i (by omega)]
          simp [ents_link d hd i x hx]
        have hrec : recOf ((logL d).take k) (logTo d i).length = x := by unfold recOf; rw [ha]
        have hnx : ((frAns ((logL d).take k) ((logTo d i).length : Int)).2.2.1).toNat = (logTo d (i + 1)).length := by rw [ha]; show ((((logTo d i).length : Int) + 10 + (ByteArray.size x.2.1 : Int))).toNat = _; omega
        have htk : d.take i ++ [x] = d.take (i + 1) := by rw [List.take_succ_eq_append_getElem hi, ex]
        rw [scanL_on _ f _ _ hg (by omega), hrec, hnx, htk]
        match r, hr with
        | 0, hr => omega
        | r + 1, hr => exact scan_from d hd k hk r (i + 1) (f - 1) (by omega) hin (by omega)
      · have hc : cutL ((logL d).take k) (logTo d i).length (k - (logTo d i).length) = (frameL x.1 (sB x.2.1)).take (k - (logTo d i).length) := by
          have := cut_part (logTo d i) (recL x) ((d.drop (i + 1)).flatMap recL) (k - (logTo d i).length) (by rw [hrl]; omega)
          rw [← hs, show (logTo d i).length + (k - (logTo d i).length) = k by omega] at this
          exact this
        have ht := fr_torn ((logL d).take k) (logTo d i).length (k - (logTo d i).length) x.1 (sB x.2.1) (by rw [hlen]; omega) (by rw [sB_len]; omega) hc (by rw [sB_len]; exact hok.2.2.2)
        exact ⟨i, by omega, scanL_end _ f _ _ (not_on _ _ _ ht), hp, fun _ => by omega⟩
    · have hi' : i = d.length := by omega
      have ha : logTo d i = logL d := logTo_all d i (by omega)
      have hpe : (logTo d i).length = (logL d).length := by rw [ha]
      have ht : (frAns ((logL d).take k) ((logTo d i).length : Int)).2.2.2 ≠ 0 := by
        unfold frAns
        rw [hlen, if_neg (by omega), if_pos (by omega)]
        simp
      exact ⟨i, by omega, scanL_end _ f _ _ (not_on _ _ _ ht), hp, fun h => by omega⟩

/-- Of a log that is cut off behind k bytes just the records are found that are all there. -/
theorem scan_cut (d : List EntD) (hd : entsB d = true) (k : Nat) (hk : k ≤ (logL d).length) :
    ∃ j, j ≤ d.length ∧ scanA ((logL d).take k) = (d.take j, (logTo d j).length) ∧ (logTo d j).length ≤ k ∧ (j < d.length → k < (logTo d (j + 1)).length) := by
  have hlen : ((logL d).take k).length = k := by rw [List.length_take]; omega
  have h := scan_from d hd k hk d.length 0 (k + 1) (by omega) (by rw [logTo_zero]; exact Nat.zero_le _) (by omega)
  obtain ⟨j, h1, h2, h3, h4⟩ := h
  refine ⟨j, h1, ?_, h3, h4⟩
  unfold scanA
  rw [hlen, ← h2, logTo_zero]
  rfl

/-- What was written is found again. -/
theorem scan_log (d : List EntD) (hd : entsB d = true) : scanA (logL d) = (d, (logL d).length) := by
  obtain ⟨j, h1, h2, h3, h4⟩ := scan_cut d hd (logL d).length (Nat.le_refl _)
  rw [List.take_length] at h2
  have hj : j = d.length := by
    rcases Nat.lt_or_ge j d.length with h | h
    · have h5 := h4 h
      have h6 := logTo_le d (j + 1)
      omega
    · omega
  rw [h2, hj, List.take_length, logTo_all d d.length (Nat.le_refl _)]

end Go.Proofs.YtkfmpfbhhmmllaaGreat

/- Fnd: Found of both sides, and scanFile of the program: what the reading of the history's file tells. -/
namespace Go.Proofs.YtkfmpfbhhmmllaaGreat
open Go.RowKit
set_option linter.unusedVariables false
set_option maxRecDepth 100000

/-- The history's file. -/
def histB : ByteArray := ⟨#[104, 105, 115, 116]⟩
/-- The file that is made beside it. -/
def tempB : ByteArray := ⟨#[116, 101, 109, 112]⟩
theorem histB_small : histB.size ≤ maxLen := by unfold maxLen; show 4 ≤ _; omega
theorem tempB_small : tempB.size ≤ maxLen := by unfold maxLen; show 4 ≤ _; omega

set_option maxRecDepth 100000 in
set_option maxHeartbeats 2000000 in
theorem implScanFile_any (cs : List Value) (d : shDisk.D) (B : Nat) (G : List Nat) (w : World) (ho : Own shDisk w B cs d G) (hs : shDisk.sz d ≤ 1048576) :
    Calls Tryz.prog 37 #[.agg cs.toArray] w fun e w' => ∃ u, e = .returned (.tuple #[u, .int .i64 ((scanA (rdA d histB).1).2 : Int)]) ∧ w'.ownsRow w.heap.size 71 2 u (scanA (rdA d histB).1).1.length (cellsE (scanA (rdA d histB).1).1) ∧ Hid (AccOk (scanA (rdA d histB).1).1 ∧ (scanA (rdA d histB).1).2 ≤ (rdA d histB).1.length) ∧ Below w.heap.size w w' := by
  obtain ⟨a3, n3, c3, F3, a4, n4, c4, F4, a5, n5, c5, F5, rfl, _, o3, o4, o5⟩ := openO_Disk ho
  obtain ⟨x0, e0⟩ : ∃ x : Int, x = d.1 := ⟨_, rfl⟩
  obtain ⟨x1, e1⟩ : ∃ x : Int, x = d.2.1 := ⟨_, rfl⟩
  obtain ⟨x2, e2⟩ : ∃ x : Int, x = d.2.2.1 := ⟨_, rfl⟩
  obtain ⟨zs, hzs⟩ : ∃ z, z = (rdA d histB).1 := ⟨_, rfl⟩
  obtain ⟨vb, hvb⟩ : ∃ z, z = (rdA d histB).2 := ⟨_, rfl⟩
  have hlen : zs.length ≤ 1048576 := by rw [hzs]; exact rdA_small histB hs
  have qrd : Hid (∀ w', Below w.heap.size w w' → Calls Tryz.prog 67 #[.agg #[.int .i64 x0, .int .i64 x1, .int .i64 x2, .slice a3 n3 c3, .slice a4 n4 c4, .slice a5 n5 c5], .string histB] w' fun e w'' => ∃ v F, e = .returned (.tuple #[v, .bool vb]) ∧ Own (.sl .u8) w'' w'.heap.size [v] zs F ∧ F.Nodup ∧ Below w'.heap.size w' w'') := fun w' h' => by
    rw [e0, e1, e2, hzs, hvb]; exact implRead_any _ d histB B G w' (ho.later h') hs histB_small
  rw [← e0, ← e1, ← e2, ← hzs]
  have bW0 : Below w.heap.size w (w.alloc (.cells #[.int .i64 x0, .int .i64 x1, .int .i64 x2, .slice a3 n3 c3, .slice a4 n4 c4, .slice a5 n5 c5] 36)) := (Below.refl _ _).alloc (Nat.le_refl _) _
  have HL : Hid (zs.length ≤ 1048576) := hlen
  clear ho hs o3 o4 o5 e0 e1 e2 hzs hvb hlen
  go_enter Tryz.func37, Tryz.ntmps37
  go_wp2_with fail
  refine (qrd.out _ bW0).mono ?_
  rintro e w1 ⟨v, F, rfl, p, nd, hb1⟩
  have b1 := bW0.trans (hb1.mono bW0.size)
  have qsc : Hid (Calls Tryz.prog 78 #[v] w1 fun e w' => ∃ u, e = .returned (.tuple #[u, .int .i64 ((scanA zs).2 : Int)]) ∧ w'.ownsRow w1.heap.size 71 2 u (scanA zs).1.length (cellsE (scanA zs).1) ∧ Hid (AccOk (scanA zs).1 ∧ (scanA zs).2 ≤ zs.length) ∧ Below w1.heap.size w1 w') := implScan_any v zs w1 p.reads HL.out
  clear hb1 p nd qrd bW0
  go_wp2_with fail
  refine qsc.out.mono ?_
  rintro e w2 ⟨u, rfl, ho2, hk2, hb2⟩
  have b2 := b1.trans (hb2.mono b1.size)
  have HO : Hid _ := own_lower ho2 b1.size
  clear hb2 qsc ho2
  go_wp2
  go_ret2
  exact ⟨u, rfl, HO.out, hk2, b2⟩

set_option maxRecDepth 100000 in
set_option maxHeartbeats 2000000 in
theorem implFound_any (cs : List Value) (d : shDisk.D) (B : Nat) (G : List Nat) (w : World) (ho : Own shDisk w B cs d G) (hs : shDisk.sz d ≤ 1048576) :
    Calls Tryz.prog 13 #[.agg cs.toArray] w fun e w' => ∃ u, e = .returned u ∧ w'.ownsRow w.heap.size 71 2 u (scanA (rdA d histB).1).1.length (cellsE (scanA (rdA d histB).1).1) ∧ Hid (AccOk (scanA (rdA d histB).1).1 ∧ (scanA (rdA d histB).1).2 ≤ (rdA d histB).1.length) ∧ Below w.heap.size w w' := by
  obtain ⟨a3, n3, c3, F3, a4, n4, c4, F4, a5, n5, c5, F5, rfl, _, o3, o4, o5⟩ := openO_Disk ho
  obtain ⟨x0, e0⟩ : ∃ x : Int, x = d.1 := ⟨_, rfl⟩
  obtain ⟨x1, e1⟩ : ∃ x : Int, x = d.2.1 := ⟨_, rfl⟩
  obtain ⟨x2, e2⟩ : ∃ x : Int, x = d.2.2.1 := ⟨_, rfl⟩
  obtain ⟨zs, hzs⟩ : ∃ z, z = (rdA d histB).1 := ⟨_, rfl⟩
  have qrd : Hid (∀ w', Below w.heap.size w w' → Calls Tryz.prog 37 #[.agg #[.int .i64 x0, .int .i64 x1, .int .i64 x2, .slice a3 n3 c3, .slice a4 n4 c4, .slice a5 n5 c5]] w' fun e w'' => ∃ u, e = .returned (.tuple #[u, .int .i64 ((scanA zs).2 : Int)]) ∧ w''.ownsRow w'.heap.size 71 2 u (scanA zs).1.length (cellsE (scanA zs).1) ∧ Hid (AccOk (scanA zs).1 ∧ (scanA zs).2 ≤ zs.length) ∧ Below w'.heap.size w' w'') := fun w' h' => by
    rw [e0, e1, e2, hzs]; exact implScanFile_any _ d B G w' (ho.later h') hs
  rw [← e0, ← e1, ← e2, ← hzs]
  have bW0 : Below w.heap.size w (w.alloc (.cells #[.int .i64 x0, .int .i64 x1, .int .i64 x2, .slice a3 n3 c3, .slice a4 n4 c4, .slice a5 n5 c5] 36)) := (Below.refl _ _).alloc (Nat.le_refl _) _
  clear ho hs o3 o4 o5 e0 e1 e2 hzs
  go_enter Tryz.func13, Tryz.ntmps13
  go_wp2_with fail
  refine (qrd.out _ bW0).mono ?_
  rintro e w1 ⟨u, rfl, ho2, hk2, hb1⟩
  have b1 := bW0.trans (hb1.mono bW0.size)
  have HO : Hid _ := own_lower ho2 bW0.size
  clear hb1 qrd bW0 ho2
  go_wp2
  go_ret
  exact ⟨u, rfl, HO.out, hk2, b1⟩

set_option maxRecDepth 100000 in
set_option maxHeartbeats 2000000 in
theorem specFound_any (cs : List Value) (d : shDisk.D) (B : Nat) (G : List Nat) (w : World) (ho : Own shDisk w B cs d G) (hs : shDisk.sz d ≤ 1048576) :
    Calls Tryz.prog 11 #[.agg cs.toArray] w fun e w' => ∃ u, e = .returned u ∧ w'.ownsRow w.heap.size 71 2 u (scanA (rdA d histB).1).1.length (cellsE (scanA (rdA d histB).1).1) ∧ Hid (AccOk (scanA (rdA d histB).1).1 ∧ (scanA (rdA d histB).1).2 ≤ (rdA d histB).1.length) ∧ Below w.heap.size w w' := by
  obtain ⟨a3, n3, c3, F3, a4, n4, c4, F4, a5, n5, c5, F5, rfl, _, o3, o4, o5⟩ := openO_Disk ho
  obtain ⟨x0, e0⟩ : ∃ x : Int, x = d.1 := ⟨_, rfl⟩
  obtain ⟨x1, e1⟩ : ∃ x : Int, x = d.2.1 := ⟨_, rfl⟩
  obtain ⟨x2, e2⟩ : ∃ x : Int, x = d.2.2.1 := ⟨_, rfl⟩
  obtain ⟨zs, hzs⟩ : ∃ z, z = (rdA d histB).1 := ⟨_, rfl⟩
  obtain ⟨vb, hvb⟩ : ∃ z, z = (rdA d histB).2 := ⟨_, rfl⟩
  have hnil : vb = false → zs = [] := by
    rw [hvb, hzs]; unfold rdA; split
    · intro h; cases h
    · intro _; rfl
  have hlen : zs.length ≤ 1048576 := by rw [hzs]; exact rdA_small histB hs
  have qrd : Hid (∀ w', Below w.heap.size w w' → Calls Tryz.prog 23 #[.agg #[.int .i64 x0, .int .i64 x1, .int .i64 x2, .slice a3 n3 c3, .slice a4 n4 c4, .slice a5 n5 c5], .string histB] w' fun e w'' => ∃ v F, e = .returned (.tuple #[v, .bool vb]) ∧ Own (.sl .u8) w'' w'.heap.size [v] zs F ∧ F.Nodup ∧ Below w'.heap.size w' w'') := fun w' h' => by
    rw [e0, e1, e2, hzs, hvb]; exact specRead_any _ d histB B G w' (ho.later h') hs
  rw [← e0, ← e1, ← e2, ← hzs]
  have bW0 : Below w.heap.size w (w.alloc (.cells #[.int .i64 x0, .int .i64 x1, .int .i64 x2, .slice a3 n3 c3, .slice a4 n4 c4, .slice a5 n5 c5] 36)) := (Below.refl _ _).alloc (Nat.le_refl _) _
  have HL : Hid (zs.length ≤ 1048576) := hlen
  clear ho hs o3 o4 o5 e0 e1 e2 hzs hvb hlen
  go_enter Tryz.func11, Tryz.ntmps11
  go_wp2_with fail
  refine (qrd.out _ bW0).mono ?_
  rintro e w1 ⟨v, F, rfl, p, nd, hb1⟩
  have b1 := bW0.trans (hb1.mono bW0.size)
  have qsc : Hid (Calls Tryz.prog 33 #[v] w1 fun e w' => ∃ u, e = .returned (.tuple #[u, .int .i64 ((scanA zs).2 : Int)]) ∧ w'.ownsRow w1.heap.size 71 2 u (scanA zs).1.length (cellsE (scanA zs).1) ∧ Hid (AccOk (scanA zs).1 ∧ (scanA zs).2 ≤ zs.length) ∧ Below w1.heap.size w1 w') := specScan_any v zs w1 p.reads HL.out
  clear hb1 p nd qrd bW0
  cases vb with
  | false =>
    have hz := hnil rfl
    clear qsc
    subst hz
    go_wp2
    go_ret
    exact ⟨_, rfl, ⟨rfl, .inl ⟨rfl, rfl⟩⟩, ⟨(fun x hx => (by cases hx)), Nat.le_refl _⟩, b1⟩
  | true =>
    clear hnil
    go_wp2_with fail
    refine qsc.out.mono ?_
    rintro e w2 ⟨u, rfl, ho2, hk2, hb2⟩
    have b2 := b1.trans (hb2.mono b1.size)
    have HO : Hid _ := own_lower ho2 b1.size
    clear hb2 qsc ho2
    go_wp2
    go_ret
    exact ⟨u, rfl, HO.out, hk2, b2⟩

end Go.Proofs.YtkfmpfbhhmmllaaGreat

/- LFound: The walk of the law FnExactFound over the contracts of its two functions. By program (lawgen3.py). -/
namespace Go.Proofs.YtkfmpfbhhmmllaaGreat
open Go.RowKit
set_option linter.unusedVariables false
set_option maxRecDepth 100000

set_option maxRecDepth 100000 in
set_option maxHeartbeats 8000000 in
theorem found_over (cs0 : List Value) (d0 : shDisk.D) (D0 : List shEntry.D) (w : World) (hr0 : Reads shDisk w cs0 d0) (hD0 : Sh.sz (.sl shEntry) D0 ≤ 1048576) (hC0 : Sh.cnt (.sl shEntry) D0 ≤ 1000000000)
    (hcd0 : shDisk.sz d0 ≤ 1048576 → shDisk.cntV d0 ≤ 1000000000)
    (hS : ∀ w' c0 G0, Own shDisk w' 0 c0 d0 G0 → shDisk.sz d0 ≤ 1048576 → Calls Tryz.prog 11 #[.agg c0.toArray] w' fun e w'' => ∃ o0, e = .returned (o0) ∧ Reads (.sl shEntry) w'' [o0] D0 ∧ Below w'.heap.size w' w'')
    (hI : ∀ w' c0 G0, Own shDisk w' 0 c0 d0 G0 → shDisk.sz d0 ≤ 1048576 → Calls Tryz.prog 13 #[.agg c0.toArray] w' fun e w'' => ∃ o0 F0, e = .returned (o0) ∧ Own (.sl shEntry) w'' w'.heap.size [o0] D0 F0 ∧ F0.Nodup ∧ Below w'.heap.size w' w'') :
    Calls Tryz.prog 4 #[.agg cs0.toArray] w fun e w' => e = .returned (.bool true) ∧ Below w.heap.size w w' := by
  have qsz0 : Hid (∀ w' left, Below w.heap.size w w' → 0 ≤ left → left ≤ 1048576 → Calls Tryz.prog 10 #[.agg cs0.toArray, .int .i64 left] w' fun e w'' => e = .returned (.int .i64 (szAns (shDisk.sz d0) left)) ∧ Below w'.heap.size w' w'') := fun w' left h' h1 h2 => szDisk_any cs0 d0 left w' (hr0.later h') h1 h2
  have qto0 : Hid (∀ w', Below w.heap.size w w' → shDisk.sz d0 ≤ 1048576 → Calls Tryz.prog 12 #[.agg cs0.toArray] w' fun e w'' => ∃ cs' F, e = .returned (.agg cs'.toArray) ∧ Own shDisk w'' w'.heap.size cs' d0 F ∧ F.Nodup ∧ Below w'.heap.size w' w'') := fun w' h' hs => toDisk_any cs0 d0 w' (hr0.later h') hs
  have qeq0 : Hid (∀ w' c1 c2, Reads shDisk w' c1 d0 → Reads shDisk w' c2 d0 → shDisk.sz d0 ≤ 1048576 → Calls Tryz.prog 15 #[.agg c1.toArray, .agg c2.toArray] w' fun e w'' => e = .returned (.bool true) ∧ Below w'.heap.size w' w'') := fun w' c1 c2 h1 h2 hs => eqDisk_any c1 c2 d0 w' h1 h2 hs
  have qS : Hid (∀ w' c0 G0, Own shDisk w' 0 c0 d0 G0 → shDisk.sz d0 ≤ 1048576 → Calls Tryz.prog 11 #[.agg c0.toArray] w' fun e w'' => ∃ o0, e = .returned (o0) ∧ Reads (.sl shEntry) w'' [o0] D0 ∧ Below w'.heap.size w' w'') := hS
  have qI : Hid (∀ w' c0 G0, Own shDisk w' 0 c0 d0 G0 → shDisk.sz d0 ≤ 1048576 → Calls Tryz.prog 13 #[.agg c0.toArray] w' fun e w'' => ∃ o0 F0, e = .returned (o0) ∧ Own (.sl shEntry) w'' w'.heap.size [o0] D0 F0 ∧ F0.Nodup ∧ Below w'.heap.size w' w'') := hI
  have qcd0 : Hid (shDisk.sz d0 ≤ 1048576 → shDisk.cntV d0 ≤ 1000000000) := hcd0
  have HD0 : Hid (_ ∧ _) := ⟨hD0, hC0⟩
  obtain ⟨aA0_3, nA0_3, cA0_3, aA0_4, nA0_4, cA0_4, aA0_5, nA0_5, cA0_5, hcs0, _⟩ := open_Disk hr0
  obtain ⟨xL0_0, eL0_0⟩ : ∃ x : Int, x = d0.1 := ⟨_, rfl⟩
  obtain ⟨xL0_1, eL0_1⟩ : ∃ x : Int, x = d0.2.1 := ⟨_, rfl⟩
  obtain ⟨xL0_2, eL0_2⟩ : ∃ x : Int, x = d0.2.2.1 := ⟨_, rfl⟩
  have HEL0 : Hid (xL0_0 = d0.1 ∧ xL0_1 = d0.2.1 ∧ xL0_2 = d0.2.2.1 ∧ True ∧ True) := ⟨eL0_0, eL0_1, eL0_2, trivial, trivial⟩
  rw [← eL0_0, ← eL0_1, ← eL0_2] at hcs0
  subst hcs0
  obtain ⟨K0, hK0⟩ : ∃ K, K = shDisk.sz d0 := ⟨_, rfl⟩
  rw [← hK0] at qsz0
  clear hS hI hr0 hcd0 hD0 hC0 eL0_0 eL0_1 eL0_2
  go_enter Tryz.func4, Tryz.ntmps4
  go_wp2_with fail
  obtain ⟨w1, hw1⟩ : ∃ W, W = w.alloc (.cells #[.int .i64 xL0_0, .int .i64 xL0_1, .int .i64 xL0_2, .slice aA0_3 nA0_3 cA0_3, .slice aA0_4 nA0_4 cA0_4, .slice aA0_5 nA0_5 cA0_5] 26) := ⟨_, rfl⟩
  have hbw1 : Below w.heap.size w w1 := by rw [hw1]; exact (Below.refl _ _).alloc (Nat.le_refl _) _
  have i_a0_w1 : Hid (w1.heap[w.heap.size]? = some (.cells #[.int .i64 xL0_0, .int .i64 xL0_1, .int .i64 xL0_2, .slice aA0_3 nA0_3 cA0_3, .slice aA0_4 nA0_4 cA0_4, .slice aA0_5 nA0_5 cA0_5] 26 (0, 0))) := by show _ = _; rw [hw1]; exact heap_alloc_new w _
  have zzw1 : w1.heap.size = w.heap.size + 1 := by rw [hw1]; simp
  rw [← hw1]
  clear hw1
  have zw1 : w.heap.size ≤ w1.heap.size := hbw1.size
  have bw1 := (Below.refl w.heap.size w).trans (hbw1.mono (Below.refl w.heap.size w).size)
  clear hbw1
  refine (qsz0.out _ (1048576) bw1 (by omega) (by omega)).mono ?_
  rintro e w2 ⟨rfl, hbw2⟩
  have zw2 : w1.heap.size ≤ w2.heap.size := hbw2.size
  have bw2 := bw1.trans (hbw2.mono bw1.size)
  clear bw1
  have i_a0_w2 : Hid (w2.heap[w.heap.size]? = some (.cells #[.int .i64 xL0_0, .int .i64 xL0_1, .int .i64 xL0_2, .slice aA0_3 nA0_3 cA0_3, .slice aA0_4 nA0_4 cA0_4, .slice aA0_5 nA0_5 cA0_5] 26 (0, 0))) := (hbw2.block _ (by omega)).trans i_a0_w1.out
  clear i_a0_w1
  clear hbw2
  by_cases hk0 : ((K0 : Nat) : Int) ≤ 1048576
  case neg =>
    rw [szAns_no hk0]
    go_wp2
    go_ret
    exact ⟨rfl, bw2⟩
  rw [szAns_yes hk0]
  have hl0 : ¬ (1048576 - ((K0 : Nat) : Int) < 0) := by omega
  have HZ0 : Hid (shDisk.sz d0 ≤ 1048576) := by show shDisk.sz d0 ≤ 1048576; omega
  have hcc0 := qcd0.out HZ0.out
  have zl_a0 : w.heap.size < w2.heap.size := by omega
  have y_a0_0 : w2.cell? ⟨w.heap.size, 0, none⟩ = some (.int .i64 xL0_0) := box_cell i_a0_w2.out rfl
  have y_a0_1 : w2.cell? ⟨w.heap.size, 1, none⟩ = some (.int .i64 xL0_1) := box_cell i_a0_w2.out rfl
  have y_a0_2 : w2.cell? ⟨w.heap.size, 2, none⟩ = some (.int .i64 xL0_2) := box_cell i_a0_w2.out rfl
  have y_a0_3 : w2.cell? ⟨w.heap.size, 3, none⟩ = some (.slice aA0_3 nA0_3 cA0_3) := box_cell i_a0_w2.out rfl
  have y_a0_4 : w2.cell? ⟨w.heap.size, 4, none⟩ = some (.slice aA0_4 nA0_4 cA0_4) := box_cell i_a0_w2.out rfl
  have y_a0_5 : w2.cell? ⟨w.heap.size, 5, none⟩ = some (.slice aA0_5 nA0_5 cA0_5) := box_cell i_a0_w2.out rfl
  go_wp2_with fail
  clear zl_a0 y_a0_0 y_a0_1 y_a0_2 y_a0_3 y_a0_4 y_a0_5
  refine (qto0.out _ bw2 HZ0.out).mono ?_
  rintro e w3 ⟨cs_y0, F_y0, he_y0, p_y0, nd_y0, hbw3⟩
  have zw3 : w2.heap.size ≤ w3.heap.size := hbw3.size
  have bw3 := bw2.trans (hbw3.mono bw2.size)
  clear bw2
  have i_a0_w3 : Hid (w3.heap[w.heap.size]? = some (.cells #[.int .i64 xL0_0, .int .i64 xL0_1, .int .i64 xL0_2, .slice aA0_3 nA0_3 cA0_3, .slice aA0_4 nA0_4 cA0_4, .slice aA0_5 nA0_5 cA0_5] 26 (0, 0))) := (hbw3.block _ (by omega)).trans i_a0_w2.out
  clear i_a0_w2
  clear hbw3
  have lt_y0 : Hid (∀ g ∈ F_y0, w2.heap.size ≤ g ∧ g < w3.heap.size) := p_y0.lt
  obtain ⟨ay0_3, ny0_3, cy0_3, ay0_4, ny0_4, cy0_4, ay0_5, ny0_5, cy0_5, hq_y0, _⟩ := open_Disk p_y0.reads
  rw [← HEL0.out.1, ← HEL0.out.2.1, ← HEL0.out.2.2.1] at hq_y0
  subst hq_y0
  subst he_y0
  go_wp2_with fail
  refine (qS.out _ _ _ (p_y0.base (Nat.zero_le _)) HZ0.out).mono ?_
  rintro e w4 ⟨W0, rfl, p_W0, hbw4⟩
  have RW0 : Hid (Reads (.sl shEntry) w4 [W0] D0) := p_W0
  have zw4 : w3.heap.size ≤ w4.heap.size := hbw4.size
  have bw4 := bw3.trans (hbw4.mono bw3.size)
  clear bw3
  have o_y0_w4 := p_y0.later hbw4
  clear p_y0
  have i_a0_w4 : Hid (w4.heap[w.heap.size]? = some (.cells #[.int .i64 xL0_0, .int .i64 xL0_1, .int .i64 xL0_2, .slice aA0_3 nA0_3 cA0_3, .slice aA0_4 nA0_4 cA0_4, .slice aA0_5 nA0_5 cA0_5] 26 (0, 0))) := (hbw4.block _ (by omega)).trans i_a0_w3.out
  clear i_a0_w3
  clear hbw4
  have sw4 : Below w4.heap.size w4 w4 := Below.refl _ _
  clear p_W0
  clear o_y0_w4 nd_y0 lt_y0
  have zl_a0 : w.heap.size < w4.heap.size := by omega
  have y_a0_0 : w4.cell? ⟨w.heap.size, 0, none⟩ = some (.int .i64 xL0_0) := box_cell i_a0_w4.out rfl
  have y_a0_1 : w4.cell? ⟨w.heap.size, 1, none⟩ = some (.int .i64 xL0_1) := box_cell i_a0_w4.out rfl
  have y_a0_2 : w4.cell? ⟨w.heap.size, 2, none⟩ = some (.int .i64 xL0_2) := box_cell i_a0_w4.out rfl
  have y_a0_3 : w4.cell? ⟨w.heap.size, 3, none⟩ = some (.slice aA0_3 nA0_3 cA0_3) := box_cell i_a0_w4.out rfl
  have y_a0_4 : w4.cell? ⟨w.heap.size, 4, none⟩ = some (.slice aA0_4 nA0_4 cA0_4) := box_cell i_a0_w4.out rfl
  have y_a0_5 : w4.cell? ⟨w.heap.size, 5, none⟩ = some (.slice aA0_5 nA0_5 cA0_5) := box_cell i_a0_w4.out rfl
  go_wp2_with fail
  clear zl_a0 y_a0_0 y_a0_1 y_a0_2 y_a0_3 y_a0_4 y_a0_5
  refine (qto0.out _ bw4 HZ0.out).mono ?_
  rintro e w5 ⟨cs_x0, F_x0, he_x0, p_x0, nd_x0, hbw5⟩
  have zw5 : w4.heap.size ≤ w5.heap.size := hbw5.size
  have bw5 := bw4.trans (hbw5.mono bw4.size)
  clear bw4
  have sw5 := sw4.trans (hbw5.mono sw4.size)
  clear sw4
  have i_a0_w5 : Hid (w5.heap[w.heap.size]? = some (.cells #[.int .i64 xL0_0, .int .i64 xL0_1, .int .i64 xL0_2, .slice aA0_3 nA0_3 cA0_3, .slice aA0_4 nA0_4 cA0_4, .slice aA0_5 nA0_5 cA0_5] 26 (0, 0))) := (hbw5.block _ (by omega)).trans i_a0_w4.out
  clear i_a0_w4
  clear hbw5
  have lt_x0 : Hid (∀ g ∈ F_x0, w4.heap.size ≤ g ∧ g < w5.heap.size) := p_x0.lt
  obtain ⟨ax0_3, nx0_3, cx0_3, ax0_4, nx0_4, cx0_4, ax0_5, nx0_5, cx0_5, hq_x0, _⟩ := open_Disk p_x0.reads
  rw [← HEL0.out.1, ← HEL0.out.2.1, ← HEL0.out.2.2.1] at hq_x0
  subst hq_x0
  subst he_x0
  go_wp2_with fail
  obtain ⟨w6, hw6⟩ : ∃ W, W = w5.alloc (.cells #[.int .i64 xL0_0, .int .i64 xL0_1, .int .i64 xL0_2, .slice ax0_3 nx0_3 cx0_3, .slice ax0_4 nx0_4 cx0_4, .slice ax0_5 nx0_5 cx0_5] 36) := ⟨_, rfl⟩
  have hbw6 : Below w5.heap.size w5 w6 := by rw [hw6]; exact (Below.refl _ _).alloc (Nat.le_refl _) _
  have i_x0_w6 : Hid (w6.heap[w5.heap.size]? = some (.cells #[.int .i64 xL0_0, .int .i64 xL0_1, .int .i64 xL0_2, .slice ax0_3 nx0_3 cx0_3, .slice ax0_4 nx0_4 cx0_4, .slice ax0_5 nx0_5 cx0_5] 36 (0, 0))) := by show _ = _; rw [hw6]; exact heap_alloc_new w5 _
  have zzw6 : w6.heap.size = w5.heap.size + 1 := by rw [hw6]; simp
  rw [← hw6]
  clear hw6
  have zw6 : w5.heap.size ≤ w6.heap.size := hbw6.size
  have bw6 := bw5.trans (hbw6.mono bw5.size)
  clear bw5
  have sw6 := sw5.trans (hbw6.mono sw5.size)
  clear sw5
  have o_x0_w6 := p_x0.later hbw6
  clear p_x0
  have i_a0_w6 : Hid (w6.heap[w.heap.size]? = some (.cells #[.int .i64 xL0_0, .int .i64 xL0_1, .int .i64 xL0_2, .slice aA0_3 nA0_3 cA0_3, .slice aA0_4 nA0_4 cA0_4, .slice aA0_5 nA0_5 cA0_5] 26 (0, 0))) := (hbw6.block _ (by omega)).trans i_a0_w5.out
  clear i_a0_w5
  clear hbw6
  refine (qI.out _ _ _ (o_x0_w6.base (Nat.zero_le _)) HZ0.out).mono ?_
  rintro e w7 ⟨g0, F_g0, rfl, p_g0, nd_g0, hbw7⟩
  have zw7 : w6.heap.size ≤ w7.heap.size := hbw7.size
  have bw7 := bw6.trans (hbw7.mono bw6.size)
  clear bw6
  have sw7 := sw6.trans (hbw7.mono sw6.size)
  clear sw6
  have o_x0_w7 := o_x0_w6.later hbw7
  clear o_x0_w6
  have i_a0_w7 : Hid (w7.heap[w.heap.size]? = some (.cells #[.int .i64 xL0_0, .int .i64 xL0_1, .int .i64 xL0_2, .slice aA0_3 nA0_3 cA0_3, .slice aA0_4 nA0_4 cA0_4, .slice aA0_5 nA0_5 cA0_5] 26 (0, 0))) := (hbw7.block _ (by omega)).trans i_a0_w6.out
  clear i_a0_w6
  have i_x0_w7 : Hid (w7.heap[w5.heap.size]? = some (.cells #[.int .i64 xL0_0, .int .i64 xL0_1, .int .i64 xL0_2, .slice ax0_3 nx0_3 cx0_3, .slice ax0_4 nx0_4 cx0_4, .slice ax0_5 nx0_5 cx0_5] 36 (0, 0))) := (hbw7.block _ (by omega)).trans i_x0_w6.out
  clear i_x0_w6
  clear hbw7
  have lt_g0 : Hid (∀ g ∈ F_g0, w6.heap.size ≤ g ∧ g < w7.heap.size) := p_g0.lt
  go_wp2_with fail
  refine (eqEntryS_v _ _ D0 _ p_g0.reads (RW0.out.later sw7) (by have := HD0.out.1; omega)).mono ?_
  rintro e w8 ⟨rfl, hbw8⟩
  have zw8 : w7.heap.size ≤ w8.heap.size := hbw8.size
  have bw8 := bw7.trans (hbw8.mono bw7.size)
  clear bw7
  have sw8 := sw7.trans (hbw8.mono sw7.size)
  clear sw7
  have o_x0_w8 := o_x0_w7.later hbw8
  clear o_x0_w7
  have o_g0_w8 := p_g0.later hbw8
  clear p_g0
  have i_a0_w8 : Hid (w8.heap[w.heap.size]? = some (.cells #[.int .i64 xL0_0, .int .i64 xL0_1, .int .i64 xL0_2, .slice aA0_3 nA0_3 cA0_3, .slice aA0_4 nA0_4 cA0_4, .slice aA0_5 nA0_5 cA0_5] 26 (0, 0))) := (hbw8.block _ (by omega)).trans i_a0_w7.out
  clear i_a0_w7
  have i_x0_w8 : Hid (w8.heap[w5.heap.size]? = some (.cells #[.int .i64 xL0_0, .int .i64 xL0_1, .int .i64 xL0_2, .slice ax0_3 nx0_3 cx0_3, .slice ax0_4 nx0_4 cx0_4, .slice ax0_5 nx0_5 cx0_5] 36 (0, 0))) := (hbw8.block _ (by omega)).trans i_x0_w7.out
  clear i_x0_w7
  clear hbw8
  have zlt : w.heap.size < w8.heap.size := by omega
  have zlt4 : w5.heap.size < w8.heap.size := by omega
  have hbb : Below w8.heap.size w8 w8 := Below.refl _ _
  have ya0 : w8.cell? ⟨w.heap.size, 0, none⟩ = some (.int .i64 xL0_0) := box_cell i_a0_w8.out rfl
  have ya1 : w8.cell? ⟨w.heap.size, 1, none⟩ = some (.int .i64 xL0_1) := box_cell i_a0_w8.out rfl
  have ya2 : w8.cell? ⟨w.heap.size, 2, none⟩ = some (.int .i64 xL0_2) := box_cell i_a0_w8.out rfl
  have ya3 : w8.cell? ⟨w.heap.size, 3, none⟩ = some (.slice aA0_3 nA0_3 cA0_3) := box_cell i_a0_w8.out rfl
  have ya4 : w8.cell? ⟨w.heap.size, 4, none⟩ = some (.slice aA0_4 nA0_4 cA0_4) := box_cell i_a0_w8.out rfl
  have ya5 : w8.cell? ⟨w.heap.size, 5, none⟩ = some (.slice aA0_5 nA0_5 cA0_5) := box_cell i_a0_w8.out rfl
  have yb0 : w8.cell? ⟨w5.heap.size, 0, none⟩ = some (.int .i64 xL0_0) := box_cell i_x0_w8.out rfl
  have yb1 : w8.cell? ⟨w5.heap.size, 1, none⟩ = some (.int .i64 xL0_1) := box_cell i_x0_w8.out rfl
  have yb2 : w8.cell? ⟨w5.heap.size, 2, none⟩ = some (.int .i64 xL0_2) := box_cell i_x0_w8.out rfl
  have yb3 : w8.cell? ⟨w5.heap.size, 3, none⟩ = some (.slice ax0_3 nx0_3 cx0_3) := box_cell i_x0_w8.out rfl
  have yb4 : w8.cell? ⟨w5.heap.size, 4, none⟩ = some (.slice ax0_4 nx0_4 cx0_4) := box_cell i_x0_w8.out rfl
  have yb5 : w8.cell? ⟨w5.heap.size, 5, none⟩ = some (.slice ax0_5 nx0_5 cx0_5) := box_cell i_x0_w8.out rfl
  go_wp2_with fail
  go_region_held (fun w' => w'.cell? ⟨w.heap.size, 0, none⟩ = some (.int .i64 xL0_0) ∧ w'.cell? ⟨w.heap.size, 1, none⟩ = some (.int .i64 xL0_1) ∧ w'.cell? ⟨w.heap.size, 2, none⟩ = some (.int .i64 xL0_2) ∧ w'.cell? ⟨w.heap.size, 3, none⟩ = some (.slice aA0_3 nA0_3 cA0_3) ∧ w'.cell? ⟨w.heap.size, 4, none⟩ = some (.slice aA0_4 nA0_4 cA0_4) ∧ w'.cell? ⟨w.heap.size, 5, none⟩ = some (.slice aA0_5 nA0_5 cA0_5) ∧ w'.cell? ⟨w5.heap.size, 0, none⟩ = some (.int .i64 xL0_0) ∧ w'.cell? ⟨w5.heap.size, 1, none⟩ = some (.int .i64 xL0_1) ∧ w'.cell? ⟨w5.heap.size, 2, none⟩ = some (.int .i64 xL0_2) ∧ w'.cell? ⟨w5.heap.size, 3, none⟩ = some (.slice ax0_3 nx0_3 cx0_3) ∧ w'.cell? ⟨w5.heap.size, 4, none⟩ = some (.slice ax0_4 nx0_4 cx0_4) ∧ w'.cell? ⟨w5.heap.size, 5, none⟩ = some (.slice ax0_5 nx0_5 cx0_5))
    (first | go_keep | (refine ⟨?_, ?_, ?_, ?_, ?_, ?_, ?_, ?_, ?_, ?_, ?_, ?_⟩ <;> first | (refine (hb7.cell ?_).trans ?_; (have h6 := hb6.size; simp at h6 ⊢; omega); assumption) | (refine (hb6.cell ?_).trans ?_; (simp; omega); assumption)))
    (first | ((go_at_call 12; refine (qto0.out _ (bw8.drew) HZ0.out).mono ?_; rintro e w9 ⟨cs6, F6, rfl, o6, nd6, hb6⟩; have za0 : w9.cell? ⟨w.heap.size, 0, none⟩ = some (.int .i64 xL0_0) := (hb6.cell (p := ⟨w.heap.size, 0, none⟩) (by simp; omega)).trans ya0; have za1 : w9.cell? ⟨w.heap.size, 1, none⟩ = some (.int .i64 xL0_1) := (hb6.cell (p := ⟨w.heap.size, 1, none⟩) (by simp; omega)).trans ya1; have za2 : w9.cell? ⟨w.heap.size, 2, none⟩ = some (.int .i64 xL0_2) := (hb6.cell (p := ⟨w.heap.size, 2, none⟩) (by simp; omega)).trans ya2; have za3 : w9.cell? ⟨w.heap.size, 3, none⟩ = some (.slice aA0_3 nA0_3 cA0_3) := (hb6.cell (p := ⟨w.heap.size, 3, none⟩) (by simp; omega)).trans ya3; have za4 : w9.cell? ⟨w.heap.size, 4, none⟩ = some (.slice aA0_4 nA0_4 cA0_4) := (hb6.cell (p := ⟨w.heap.size, 4, none⟩) (by simp; omega)).trans ya4; have za5 : w9.cell? ⟨w.heap.size, 5, none⟩ = some (.slice aA0_5 nA0_5 cA0_5) := (hb6.cell (p := ⟨w.heap.size, 5, none⟩) (by simp; omega)).trans ya5; have zb0 : w9.cell? ⟨w5.heap.size, 0, none⟩ = some (.int .i64 xL0_0) := (hb6.cell (p := ⟨w5.heap.size, 0, none⟩) (by simp; omega)).trans yb0; have zb1 : w9.cell? ⟨w5.heap.size, 1, none⟩ = some (.int .i64 xL0_1) := (hb6.cell (p := ⟨w5.heap.size, 1, none⟩) (by simp; omega)).trans yb1; have zb2 : w9.cell? ⟨w5.heap.size, 2, none⟩ = some (.int .i64 xL0_2) := (hb6.cell (p := ⟨w5.heap.size, 2, none⟩) (by simp; omega)).trans yb2; have zb3 : w9.cell? ⟨w5.heap.size, 3, none⟩ = some (.slice ax0_3 nx0_3 cx0_3) := (hb6.cell (p := ⟨w5.heap.size, 3, none⟩) (by simp; omega)).trans yb3; have zb4 : w9.cell? ⟨w5.heap.size, 4, none⟩ = some (.slice ax0_4 nx0_4 cx0_4) := (hb6.cell (p := ⟨w5.heap.size, 4, none⟩) (by simp; omega)).trans yb4; have zb5 : w9.cell? ⟨w5.heap.size, 5, none⟩ = some (.slice ax0_5 nx0_5 cx0_5) := (hb6.cell (p := ⟨w5.heap.size, 5, none⟩) (by simp; omega)).trans yb5)) | ((go_at_call 15; refine (qeq0.out _ _ cs6 (o_x0_w8.later ((Below.drew hbb).trans (hb6.mono (by simp)))).reads o6.reads HZ0.out).mono ?_; rintro e w10 ⟨rfl, hb7⟩)))
  have hbw10 : Below w8.heap.size w8 w10 := hbb.drew.trans ((hb6.trans (hb7.mono hb6.size)).mono hbb.drew.size)
  clear hb6 hb7 o6 nd6 hbb zlt zlt4 ya0 ya1 ya2 ya3 ya4 ya5 yb0 yb1 yb2 yb3 yb4 yb5 za0 za1 za2 za3 za4 za5 zb0 zb1 zb2 zb3 zb4 zb5
  have zw10 : w8.heap.size ≤ w10.heap.size := hbw10.size
  have bw10 := bw8.trans (hbw10.mono bw8.size)
  clear bw8
  have sw10 := sw8.trans (hbw10.mono sw8.size)
  clear sw8
  have o_x0_w10 := o_x0_w8.later hbw10
  clear o_x0_w8
  have o_g0_w10 := o_g0_w8.later hbw10
  clear o_g0_w8
  have i_a0_w10 : Hid (w10.heap[w.heap.size]? = some (.cells #[.int .i64 xL0_0, .int .i64 xL0_1, .int .i64 xL0_2, .slice aA0_3 nA0_3 cA0_3, .slice aA0_4 nA0_4 cA0_4, .slice aA0_5 nA0_5 cA0_5] 26 (0, 0))) := (hbw10.block _ (by omega)).trans i_a0_w8.out
  clear i_a0_w8
  have i_x0_w10 : Hid (w10.heap[w5.heap.size]? = some (.cells #[.int .i64 xL0_0, .int .i64 xL0_1, .int .i64 xL0_2, .slice ax0_3 nx0_3 cx0_3, .slice ax0_4 nx0_4 cx0_4, .slice ax0_5 nx0_5 cx0_5] 36 (0, 0))) := (hbw10.block _ (by omega)).trans i_x0_w8.out
  clear i_x0_w8
  clear hbw10
  have zl_x0 : w5.heap.size < w10.heap.size := by omega
  have y_x0_0 : w10.cell? ⟨w5.heap.size, 0, none⟩ = some (.int .i64 xL0_0) := box_cell i_x0_w10.out rfl
  have y_x0_1 : w10.cell? ⟨w5.heap.size, 1, none⟩ = some (.int .i64 xL0_1) := box_cell i_x0_w10.out rfl
  have y_x0_2 : w10.cell? ⟨w5.heap.size, 2, none⟩ = some (.int .i64 xL0_2) := box_cell i_x0_w10.out rfl
  have y_x0_3 : w10.cell? ⟨w5.heap.size, 3, none⟩ = some (.slice ax0_3 nx0_3 cx0_3) := box_cell i_x0_w10.out rfl
  have y_x0_4 : w10.cell? ⟨w5.heap.size, 4, none⟩ = some (.slice ax0_4 nx0_4 cx0_4) := box_cell i_x0_w10.out rfl
  have y_x0_5 : w10.cell? ⟨w5.heap.size, 5, none⟩ = some (.slice ax0_5 nx0_5 cx0_5) := box_cell i_x0_w10.out rfl
  go_wp2_with fail
  clear zl_x0 y_x0_0 y_x0_1 y_x0_2 y_x0_3 y_x0_4 y_x0_5
  refine (markDisk_own _ _ (1) d0 F_x0 _ o_x0_w10 nd_x0 (by omega) (by omega)).mono ?_
  rintro e w11 ⟨rfl, p2_x0, htw11⟩
  have zw11 : w10.heap.size ≤ w11.heap.size := htw11.size
  have bw11 := htw11.below bw10 bw10.size (fun g hg => by have h9 := (lt_x0.out g hg).1; omega)
  clear bw10
  have sw11 := htw11.below sw10 sw10.size (fun g hg => by have h9 := (lt_x0.out g hg).1; omega)
  clear sw10
  clear o_x0_w10
  have o_g0_w11 := htw11.own o_g0_w10 (fun g hg hf => by have h8 := lt_g0.out g hg; have h9 := lt_x0.out g hf; omega)
  clear o_g0_w10
  have i_a0_w11 : Hid (w11.heap[w.heap.size]? = some (.cells #[.int .i64 xL0_0, .int .i64 xL0_1, .int .i64 xL0_2, .slice aA0_3 nA0_3 cA0_3, .slice aA0_4 nA0_4 cA0_4, .slice aA0_5 nA0_5 cA0_5] 26 (0, 0))) := (htw11.block _ (by omega) (fun hm => by have h9 := lt_x0.out _ hm; omega)).trans i_a0_w10.out
  clear i_a0_w10
  have i_x0_w11 : Hid (w11.heap[w5.heap.size]? = some (.cells #[.int .i64 xL0_0, .int .i64 xL0_1, .int .i64 xL0_2, .slice ax0_3 nx0_3 cx0_3, .slice ax0_4 nx0_4 cx0_4, .slice ax0_5 nx0_5 cx0_5] 36 (0, 0))) := (htw11.block _ (by omega) (fun hm => by have h9 := lt_x0.out _ hm; omega)).trans i_x0_w10.out
  clear i_x0_w10
  clear htw11
  have hkk : ¬ (((1 + shDisk.cntV d0 : Nat) : Int) < 0) := by omega
  clear p2_x0 nd_x0 lt_x0
  go_wp2_with fail
  refine (eqEntryS_v _ _ D0 _ o_g0_w11.reads (RW0.out.later sw11) (by have := HD0.out.1; omega)).mono ?_
  rintro e w12 ⟨rfl, hbw12⟩
  have zw12 : w11.heap.size ≤ w12.heap.size := hbw12.size
  have bw12 := bw11.trans (hbw12.mono bw11.size)
  clear bw11
  have sw12 := sw11.trans (hbw12.mono sw11.size)
  clear sw11
  have o_g0_w12 := o_g0_w11.later hbw12
  clear o_g0_w11
  have i_a0_w12 : Hid (w12.heap[w.heap.size]? = some (.cells #[.int .i64 xL0_0, .int .i64 xL0_1, .int .i64 xL0_2, .slice aA0_3 nA0_3 cA0_3, .slice aA0_4 nA0_4 cA0_4, .slice aA0_5 nA0_5 cA0_5] 26 (0, 0))) := (hbw12.block _ (by omega)).trans i_a0_w11.out
  clear i_a0_w11
  clear hbw12
  clear hkk
  have hcj0 := HD0.out.2
  go_wp2_with fail
  refine (markEntryS_v _ _ _ (1) D0 F_g0 _ (by first | rfl | omega | (simp; done)) o_g0_w12 nd_g0 (by omega) (by omega)).mono ?_
  rintro e w13 ⟨rfl, p2_g0, htw13⟩
  have zw13 : w12.heap.size ≤ w13.heap.size := htw13.size
  have bw13 := htw13.below bw12 bw12.size (fun g hg => by have h9 := (lt_g0.out g hg).1; omega)
  clear bw12
  have sw13 := htw13.below sw12 sw12.size (fun g hg => by have h9 := (lt_g0.out g hg).1; omega)
  clear sw12
  clear o_g0_w12
  have i_a0_w13 : Hid (w13.heap[w.heap.size]? = some (.cells #[.int .i64 xL0_0, .int .i64 xL0_1, .int .i64 xL0_2, .slice aA0_3 nA0_3 cA0_3, .slice aA0_4 nA0_4 cA0_4, .slice aA0_5 nA0_5 cA0_5] 26 (0, 0))) := (htw13.block _ (by omega) (fun hm => by have h9 := lt_g0.out _ hm; omega)).trans i_a0_w12.out
  clear i_a0_w12
  clear htw13
  have hqq : ¬ (((1 + Sh.cnt (.sl shEntry) D0 : Nat) : Int) < 0) := by omega
  have hmm : ((((1 + Sh.cnt (.sl shEntry) D0 : Nat) : Int)) != (((1 + Sh.cnt (.sl shEntry) D0 : Nat) : Int))) = false := by simp
  go_wp2_with fail
  refine (heldEntryS_v _ _ _ (1) D0 F_g0 _ (by first | rfl | omega | (simp; done)) p2_g0 nd_g0 (by omega) (by omega)).mono ?_
  rintro e w14 ⟨rfl, hbw14⟩
  have zw14 : w13.heap.size ≤ w14.heap.size := hbw14.size
  have bw14 := bw13.trans (hbw14.mono bw13.size)
  clear bw13
  have sw14 := sw13.trans (hbw14.mono sw13.size)
  clear sw13
  have o_g0_w14 := p2_g0.later hbw14
  clear p2_g0
  have i_a0_w14 : Hid (w14.heap[w.heap.size]? = some (.cells #[.int .i64 xL0_0, .int .i64 xL0_1, .int .i64 xL0_2, .slice aA0_3 nA0_3 cA0_3, .slice aA0_4 nA0_4 cA0_4, .slice aA0_5 nA0_5 cA0_5] 26 (0, 0))) := (hbw14.block _ (by omega)).trans i_a0_w13.out
  clear i_a0_w13
  clear hbw14
  have zl_a0 : w.heap.size < w14.heap.size := by omega
  have y_a0_0 : w14.cell? ⟨w.heap.size, 0, none⟩ = some (.int .i64 xL0_0) := box_cell i_a0_w14.out rfl
  have y_a0_1 : w14.cell? ⟨w.heap.size, 1, none⟩ = some (.int .i64 xL0_1) := box_cell i_a0_w14.out rfl
  have y_a0_2 : w14.cell? ⟨w.heap.size, 2, none⟩ = some (.int .i64 xL0_2) := box_cell i_a0_w14.out rfl
  have y_a0_3 : w14.cell? ⟨w.heap.size, 3, none⟩ = some (.slice aA0_3 nA0_3 cA0_3) := box_cell i_a0_w14.out rfl
  have y_a0_4 : w14.cell? ⟨w.heap.size, 4, none⟩ = some (.slice aA0_4 nA0_4 cA0_4) := box_cell i_a0_w14.out rfl
  have y_a0_5 : w14.cell? ⟨w.heap.size, 5, none⟩ = some (.slice aA0_5 nA0_5 cA0_5) := box_cell i_a0_w14.out rfl
  go_wp2_with fail
  clear zl_a0 y_a0_0 y_a0_1 y_a0_2 y_a0_3 y_a0_4 y_a0_5
  refine (qto0.out _ bw14 HZ0.out).mono ?_
  rintro e w15 ⟨cs_h0, F_h0, he_h0, p_h0, nd_h0, hbw15⟩
  have zw15 : w14.heap.size ≤ w15.heap.size := hbw15.size
  have bw15 := bw14.trans (hbw15.mono bw14.size)
  clear bw14
  have sw15 := sw14.trans (hbw15.mono sw14.size)
  clear sw14
  have o_g0_w15 := o_g0_w14.later hbw15
  clear o_g0_w14
  have i_a0_w15 : Hid (w15.heap[w.heap.size]? = some (.cells #[.int .i64 xL0_0, .int .i64 xL0_1, .int .i64 xL0_2, .slice aA0_3 nA0_3 cA0_3, .slice aA0_4 nA0_4 cA0_4, .slice aA0_5 nA0_5 cA0_5] 26 (0, 0))) := (hbw15.block _ (by omega)).trans i_a0_w14.out
  clear i_a0_w14
  clear hbw15
  have lt_h0 : Hid (∀ g ∈ F_h0, w14.heap.size ≤ g ∧ g < w15.heap.size) := p_h0.lt
  obtain ⟨ah0_3, nh0_3, ch0_3, ah0_4, nh0_4, ch0_4, ah0_5, nh0_5, ch0_5, hq_h0, _⟩ := open_Disk p_h0.reads
  rw [← HEL0.out.1, ← HEL0.out.2.1, ← HEL0.out.2.2.1] at hq_h0
  subst hq_h0
  subst he_h0
  go_wp2_with fail
  refine (qI.out _ _ _ (p_h0.base (Nat.zero_le _)) HZ0.out).mono ?_
  rintro e w16 ⟨k0, F_k0, rfl, p_k0, nd_k0, hbw16⟩
  have zw16 : w15.heap.size ≤ w16.heap.size := hbw16.size
  have bw16 := bw15.trans (hbw16.mono bw15.size)
  clear bw15
  have sw16 := sw15.trans (hbw16.mono sw15.size)
  clear sw15
  have o_g0_w16 := o_g0_w15.later hbw16
  clear o_g0_w15
  have o_h0_w16 := p_h0.later hbw16
  clear p_h0
  have i_a0_w16 : Hid (w16.heap[w.heap.size]? = some (.cells #[.int .i64 xL0_0, .int .i64 xL0_1, .int .i64 xL0_2, .slice aA0_3 nA0_3 cA0_3, .slice aA0_4 nA0_4 cA0_4, .slice aA0_5 nA0_5 cA0_5] 26 (0, 0))) := (hbw16.block _ (by omega)).trans i_a0_w15.out
  clear i_a0_w15
  clear hbw16
  have lt_k0 : Hid (∀ g ∈ F_k0, w15.heap.size ≤ g ∧ g < w16.heap.size) := p_k0.lt
  go_wp2_with fail
  refine (eqEntryS_v _ _ D0 _ p_k0.reads (RW0.out.later sw16) (by have := HD0.out.1; omega)).mono ?_
  rintro e w17 ⟨rfl, hbw17⟩
  have zw17 : w16.heap.size ≤ w17.heap.size := hbw17.size
  have bw17 := bw16.trans (hbw17.mono bw16.size)
  clear bw16
  have sw17 := sw16.trans (hbw17.mono sw16.size)
  clear sw16
  have o_g0_w17 := o_g0_w16.later hbw17
  clear o_g0_w16
  have o_h0_w17 := o_h0_w16.later hbw17
  clear o_h0_w16
  have o_k0_w17 := p_k0.later hbw17
  clear p_k0
  have i_a0_w17 : Hid (w17.heap[w.heap.size]? = some (.cells #[.int .i64 xL0_0, .int .i64 xL0_1, .int .i64 xL0_2, .slice aA0_3 nA0_3 cA0_3, .slice aA0_4 nA0_4 cA0_4, .slice aA0_5 nA0_5 cA0_5] 26 (0, 0))) := (hbw17.block _ (by omega)).trans i_a0_w16.out
  clear i_a0_w16
  clear hbw17
  go_wp2_with fail
  refine (heldEntryS_v _ _ _ (1) D0 F_g0 _ (by first | rfl | omega | (simp; done)) o_g0_w17 nd_g0 (by omega) (by omega)).mono ?_
  rintro e w18 ⟨rfl, hbw18⟩
  have zw18 : w17.heap.size ≤ w18.heap.size := hbw18.size
  have bw18 := bw17.trans (hbw18.mono bw17.size)
  clear bw17
  have sw18 := sw17.trans (hbw18.mono sw17.size)
  clear sw17
  have o_g0_w18 := o_g0_w17.later hbw18
  clear o_g0_w17
  have o_h0_w18 := o_h0_w17.later hbw18
  clear o_h0_w17
  have o_k0_w18 := o_k0_w17.later hbw18
  clear o_k0_w17
  have i_a0_w18 : Hid (w18.heap[w.heap.size]? = some (.cells #[.int .i64 xL0_0, .int .i64 xL0_1, .int .i64 xL0_2, .slice aA0_3 nA0_3 cA0_3, .slice aA0_4 nA0_4 cA0_4, .slice aA0_5 nA0_5 cA0_5] 26 (0, 0))) := (hbw18.block _ (by omega)).trans i_a0_w17.out
  clear i_a0_w17
  clear hbw18
  go_wp2
  go_ret
  exact ⟨rfl, bw18⟩

end Go.Proofs.YtkfmpfbhhmmllaaGreat

/- WFound: The law FnExactFound over the contracts of its two functions. -/
namespace Go.Proofs.YtkfmpfbhhmmllaaGreat
open Go.RowKit
set_option linter.unusedVariables false
set_option maxRecDepth 100000

theorem found_law (cs : List Value) (d : shDisk.D) (w : World) (hr : Reads shDisk w cs d) :
    Calls Tryz.prog 4 #[.agg cs.toArray] w fun e w' => e = .returned (.bool true) ∧ Below w.heap.size w w' := by
  by_cases hs : shDisk.sz d ≤ 1048576
  · obtain ⟨zs, hzs⟩ : ∃ z, z = (rdA d histB).1 := ⟨_, rfl⟩
    have hlen : zs.length ≤ 1048576 := by rw [hzs]; exact rdA_small histB hs
    have hby : Byt zs := by rw [hzs]; exact rdA_byt hr histB
    have hb : bulkE (scanA zs).1 ≤ zs.length := scan_bulk zs hby _ [] 0 (Nat.zero_le _) (Nat.zero_le _)
    have hsz : Sh.sz (.sl shEntry) (scanA zs).1 ≤ 1048576 := by rw [bulkE_sz]; omega
    refine found_over cs d (scanA zs).1 w hr hsz (cntS_Entry _ hsz) (cntV_small d) ?_ ?_
    · intro w' c G h _
      refine (specFound_any c d 0 G w' h hs).mono ?_
      rw [← hzs]
      rintro e w'' ⟨u, rfl, ho, hk, hb⟩
      have small : SmallE (scanA zs).1 := fun x hx => by
        have := (hk.out.1 x hx).2.2
        unfold maxLen; omega
      obtain ⟨F, hF, _⟩ := own_entsV rfl small ho
      exact ⟨u, rfl, hF.reads, hb⟩
    · intro w' c G h _
      refine (implFound_any c d 0 G w' h hs).mono ?_
      rw [← hzs]
      rintro e w'' ⟨u, rfl, ho, hk, hb⟩
      have small : SmallE (scanA zs).1 := fun x hx => by
        have := (hk.out.1 x hx).2.2
        unfold maxLen; omega
      obtain ⟨F, hF, hnd, _⟩ := own_entsV rfl small ho
      exact ⟨u, F, rfl, hF, hnd, hb⟩
  · exact found_over cs d ([] : List EntD) w hr (by show 0 + 0 ≤ _; omega) (by show 0 ≤ _; omega) (fun h => absurd h hs) (fun _ _ _ _ h => absurd h hs) (fun _ _ _ _ h => absurd h hs)

end Go.Proofs.YtkfmpfbhhmmllaaGreat
