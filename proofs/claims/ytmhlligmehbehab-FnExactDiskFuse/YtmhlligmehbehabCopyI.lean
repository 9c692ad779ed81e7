/-
  The program's copy of a disk (copyDisk): all of it in memory of its own.
-/
import Derived.Test.YtmhlligmehbehabCopyS
import Derived.Test.YtmhlligmehbehabCloneV
import Derived.Test.YtmhlligmehbehabShelf
import Derived.Deep.RegionHeld3
namespace Go.Proofs.Ytmhlligmehbehab
open Go.RowKit
set_option linter.unusedVariables false
set_option linter.unusedSimpArgs false

set_option maxHeartbeats 400000 in
theorem cloneS_any (s : ByteArray) (w : World) (h : s.size ≤ 1048576) :
    Calls Try.prog 76 #[.string s] w fun e w' => e = .returned (.string s) ∧ Below w.heap.size w w' := by
  go_enter Try.func76, Try.ntmps76
  go_wp2_with fail
  refine (Try.stringslite_Clone s _ (by omega)).mono ?_
  rintro e w' ⟨rfl, hb⟩
  go_wp2
  go_ret
  exact ⟨rfl, hb⟩

theorem link_sz {l : List LinkD} {i : Nat} {x : shLink.D} (h : shLink.at l i = some x) : ByteArray.size x.1 ≤ (List.map shLink.sz l).sum := by
  have h1 := sz_elem shLink l i x h
  rw [sz_Link] at h1
  exact h1

theorem turn_sz {l : List TurnD} {i : Nat} {x : shTurn.D} (h : shTurn.at l i = some x) : ByteArray.size x.2.1 + ByteArray.size x.2.2.1 ≤ (List.map shTurn.sz l).sum := by
  have h1 := sz_elem shTurn l i x h
  rw [sz_Turn] at h1
  exact h1

theorem take_snocLk (l : List LinkD) (k : Nat) (hk : k < l.length) (x : LinkD) (hx : l[k] = x) : l.take (k + 1) = l.take k ++ [x] := by
  rw [List.take_succ_eq_append_getElem hk, hx]

theorem take_snocTk (l : List TurnD) (k : Nat) (hk : k < l.length) (x : TurnD) (hx : l[k] = x) : l.take (k + 1) = l.take k ++ [x] := by
  rw [List.take_succ_eq_append_getElem hk, hx]

theorem cellsT_snoc (l : List TurnD) (x : TurnD) : cellsT (l ++ [x]) = cellsT l ++ [.int .i64 x.1, .string x.2.1, .string x.2.2.1, .int .i64 x.2.2.2.1] := by simp [cellsT]

set_option maxRecDepth 100000 in
set_option maxHeartbeats 16000000 in
theorem implCopy_ok (cs : List Value) (d : shDisk.D) (B0 : Nat) (G : List Nat) (w : World) (ho : Own shDisk w B0 cs d G) (hs : shDisk.sz d ≤ 1048576) :
    Calls Try.prog 52 #[.agg cs.toArray] w fun e w' => ∃ cs' F, e = .returned (.agg cs'.toArray) ∧ Own shDisk w' w.heap.size cs' d F ∧ F.Nodup ∧ Below w.heap.size w w' := by
  obtain ⟨i0, hi, hz0, hz1, hz2⟩ := info_parts infoNode
  obtain ⟨j0, hj, hy0, hy1, hy2⟩ := info_parts infoLink
  obtain ⟨t0, ht, hx0, hx1, hx2⟩ := info_parts infoTurn
  obtain ⟨a3, n3, c3, F3, a4, n4, c4, F4, a5, n5, c5, F5, rfl, _, o3, o4, o5⟩ := openO_Disk ho
  obtain ⟨x0, e0⟩ : ∃ x : Int, x = d.1 := ⟨_, rfl⟩
  obtain ⟨x1, e1⟩ : ∃ x : Int, x = d.2.1 := ⟨_, rfl⟩
  obtain ⟨x2, e2⟩ : ∃ x : Int, x = d.2.2.1 := ⟨_, rfl⟩
  have hs' := hs
  rw [sz_Disk] at hs'
  obtain ⟨nd, hnd⟩ : ∃ l : List NodeD, l = d.2.2.2.1 := ⟨_, rfl⟩
  obtain ⟨kp, hkp⟩ : ∃ l : List LinkD, l = d.2.2.2.2.1 := ⟨_, rfl⟩
  obtain ⟨tn, htn⟩ : ∃ l : List TurnD, l = d.2.2.2.2.2.1 := ⟨_, rfl⟩
  have l3 : nd.length = n3 := by rw [hnd]; exact (reads_len o3.reads).1
  have l4 : kp.length = n4 := by rw [hkp]; exact (reads_len o4.reads).1
  have l5 : tn.length = n5 := by rw [htn]; exact (reads_len o5.reads).1
  have s3 : n3 + (List.map shNode.sz nd).sum = Sh.sz (.sl shNode) d.2.2.2.1 := by rw [← l3, hnd]; rfl
  have s4 : n4 + (List.map shLink.sz kp).sum = Sh.sz (.sl shLink) d.2.2.2.2.1 := by rw [← l4, hkp]; rfl
  have s5 : n5 + (List.map shTurn.sz tn).sum = Sh.sz (.sl shTurn) d.2.2.2.2.2.1 := by rw [← l5, htn]; rfl
  have HSN : Hid (n3 + (List.map shNode.sz nd).sum ≤ 1048576 ∧ n4 + (List.map shLink.sz kp).sum ≤ 1048576 ∧ n5 + (List.map shTurn.sz tn).sum ≤ 1048576) := ⟨by omega, by omega, by omega⟩
  have hn3' : n3 ≤ 1048576 := by omega
  have hn4' : n4 ≤ 1048576 := by omega
  have hn5' : n5 ≤ 1048576 := by omega
  rw [← hnd] at o3
  rw [← hkp] at o4
  rw [← htn] at o5
  have l3m : n3 ≤ c3 ∧ c3 ≤ maxLen := (reads_len o3.reads).2
  have l4m : n4 ≤ c4 ∧ c4 ≤ maxLen := (reads_len o4.reads).2
  have l5m : n5 ≤ c5 ∧ c5 ≤ maxLen := (reads_len o5.reads).2
  unfold maxLen at l3m l4m l5m
  have HR : Hid (Own (.sl shNode) w B0 [.slice a3 n3 c3] nd F3 ∧ Own (.sl shLink) w B0 [.slice a4 n4 c4] kp F4 ∧ Own (.sl shTurn) w B0 [.slice a5 n5 c5] tn F5) := ⟨o3, o4, o5⟩
  have HL : Hid (nd.length = n3 ∧ kp.length = n4 ∧ tn.length = n5 ∧ SmallS kp ∧ SmallT tn) := ⟨l3, l4, l5, reads_small o4.reads, reads_smallT o5.reads⟩
  have HD : Hid (x0 = d.1 ∧ x1 = d.2.1 ∧ x2 = d.2.2.1 ∧ nd = d.2.2.2.1 ∧ kp = d.2.2.2.2.1 ∧ tn = d.2.2.2.2.2.1) := ⟨e0, e1, e2, hnd, hkp, htn⟩
  rw [← e0, ← e1, ← e2]
  obtain ⟨W1, hW1⟩ : ∃ W, W = ((w.alloc (.cells #[.int .i64 x0, .int .i64 x1, .int .i64 x2, .slice a3 n3 c3, .slice a4 n4 c4, .slice a5 n5 c5] 32)).alloc (.cells #[.int .i64 0, .int .i64 0, .int .i64 0, .slice none 0 0, .slice none 0 0, .slice none 0 0] 32)).alloc (.cells #[.int .i64 x0, .int .i64 x1, .int .i64 x2, .slice none 0 0, .slice none 0 0, .slice none 0 0] 32) := ⟨_, rfl⟩
  have bW1 : Below w.heap.size w W1 := by rw [hW1]; exact (((Below.refl _ _).alloc (Nat.le_refl _) _).alloc (by simp) _).alloc (by simp; omega) _
  obtain ⟨hbd, hbr, hbo, zW1⟩ : W1.heap[w.heap.size]? = some (.cells #[.int .i64 x0, .int .i64 x1, .int .i64 x2, .slice a3 n3 c3, .slice a4 n4 c4, .slice a5 n5 c5] 32) ∧ W1.heap[w.heap.size + 1]? = some (.cells #[.int .i64 0, .int .i64 0, .int .i64 0, .slice none 0 0, .slice none 0 0, .slice none 0 0] 32) ∧ W1.heap[w.heap.size + 1 + 1]? = some (.cells #[.int .i64 x0, .int .i64 x1, .int .i64 x2, .slice none 0 0, .slice none 0 0, .slice none 0 0] 32) ∧ W1.heap.size = w.heap.size + 1 + 1 + 1 := by rw [hW1]; exact alloc3_heap w _ _ _
  have HW1 : Hid (W1 = ((w.alloc (.cells #[.int .i64 x0, .int .i64 x1, .int .i64 x2, .slice a3 n3 c3, .slice a4 n4 c4, .slice a5 n5 c5] 32)).alloc (.cells #[.int .i64 0, .int .i64 0, .int .i64 0, .slice none 0 0, .slice none 0 0, .slice none 0 0] 32)).alloc (.cells #[.int .i64 x0, .int .i64 x1, .int .i64 x2, .slice none 0 0, .slice none 0 0, .slice none 0 0] 32)) := hW1
  have H0 : Hid (Gath shNode 65 W1 (w.heap.size + 3) (.slice none 0 0) 0 [] [] [] ∧ Below w.heap.size w W1 ∧ W1.heap[w.heap.size]? = some (.cells #[.int .i64 x0, .int .i64 x1, .int .i64 x2, .slice a3 n3 c3, .slice a4 n4 c4, .slice a5 n5 c5] 32 (0, 0)) ∧ W1.heap[w.heap.size + 1]? = some (.cells #[.int .i64 0, .int .i64 0, .int .i64 0, .slice none 0 0, .slice none 0 0, .slice none 0 0] 32 (0, 0)) ∧ W1.heap[w.heap.size + 1 + 1]? = some (.cells #[.int .i64 x0, .int .i64 x1, .int .i64 x2, .slice none 0 0, .slice none 0 0, .slice none 0 0] 32 (0, 0))) := ⟨Gath.nil _ _ _ _, bW1, hbd, hbr, hbo⟩
  have hsW1 : w.heap.size + 3 ≤ W1.heap.size := by omega
  have hm0 : (0 : Nat) ≤ maxLen := Nat.zero_le _
  clear ho hs hs' o3 o4 o5 e0 e1 e2 hnd hkp htn l3 l4 l5 s3 s4 s5 hW1 hbd hbr hbo zW1
  go_enter Try.func52, Try.ntmps52
  go_wp2
  rw [← HW1.out]
  go_loopw [20] (fun i wr => ∃ (k : Nat) (vv : Value) (Cs : List (List Value)) (Fs : List (List Nat)), k ≤ n3 ∧ i = .int .i64 k ∧ Hid (Gath shNode 65 wr (w.heap.size + 3) vv k (nd.take k) Cs Fs) ∧ Below w.heap.size w wr ∧ w.heap.size + 3 ≤ wr.heap.size ∧
      Hid (wr.heap[w.heap.size]? = some (.cells #[.int .i64 x0, .int .i64 x1, .int .i64 x2, .slice a3 n3 c3, .slice a4 n4 c4, .slice a5 n5 c5] 32 (0, 0)) ∧ wr.heap[w.heap.size + 1]? = some (.cells #[.int .i64 0, .int .i64 0, .int .i64 0, .slice none 0 0, .slice none 0 0, .slice none 0 0] 32 (0, 0)) ∧ wr.heap[w.heap.size + 1 + 1]? = some (.cells #[.int .i64 x0, .int .i64 x1, .int .i64 x2, vv, .slice none 0 0, .slice none 0 0] 32 (0, 0)))) (fun i _ => n3 - (intOf i).toNat)
  case atStart => exact ⟨0, _, [], [], Nat.zero_le _, rfl, H0.out.1, H0.out.2.1, hsW1, H0.out.2.2⟩
  case round =>
    obtain ⟨k, vv, Cs, Fs, hk, rfl, HG, hbel, hsz2, HBX⟩ := hrel
    have hbs := hbel.size
    by_cases hlt : k < n3
    · obtain ⟨g3, cc, x, fx, ha3, hg3, hx, hox, _, hcell⟩ := own_get HR.out.1 k hlt
      subst ha3
      obtain ⟨hkd, hxe⟩ := at_some' hx
      have hsx : shNode.sz x ≤ (List.map shNode.sz nd).sum := sz_elem shNode nd k x hx
      obtain ⟨p1, m1, k1, f1, p2, m2, k2, f2, rfl, _, ob, os⟩ := openO_Node hox
      obtain ⟨y0, ey0⟩ : ∃ y : Int, y = x.1 := ⟨_, rfl⟩
      obtain ⟨zb, ezb⟩ : ∃ z : List Int, z = x.2.1 := ⟨_, rfl⟩
      obtain ⟨zf, ezf⟩ : ∃ z : List Int, z = x.2.2.1 := ⟨_, rfl⟩
      rw [← ezb] at ob
      rw [← ezf] at os
      have hlb : zb.length ≤ 1048576 := by
        have h3 : List.length (α := Int) x.2.1 ≤ shNode.sz x := (sz_len x).1
        rw [← ezb] at h3; have := HSN.out.1; omega
      have hlf : zf.length ≤ 1048576 := by
        have h3 : List.length (α := Int) x.2.2.1 ≤ shNode.sz x := (sz_len x).2
        rw [← ezf] at h3; have := HSN.out.1; omega
      have QB : Hid (∀ w', Below w.heap.size w w' → Calls Try.prog 75 #[.slice p1 m1 k1] w' fun e w'' => ∃ v' F, e = .returned v' ∧ Own (.sl .u8) w'' w'.heap.size [v'] zb F ∧ F.Nodup ∧ Below w'.heap.size w' w'') := fun w' h' => clone_v _ zb w' (ob.reads.later h') (by omega)
      have QF : Hid (∀ w', Below w.heap.size w w' → Calls Try.prog 75 #[.slice p2 m2 k2] w' fun e w'' => ∃ v' F, e = .returned v' ∧ Own (.sl .u8) w'' w'.heap.size [v'] zf F ∧ F.Nodup ∧ Below w'.heap.size w' w'') := fun w' h' => clone_v _ zf w' (os.reads.later h') (by omega)
      have g0 : wr.cell? ⟨g3, k * 3, none⟩ = some (.int .i64 y0) := by rw [ey0]; exact (hbel.cell (p := ⟨g3, k * 3 + 0, none⟩) hg3).trans (hcell 0 (by decide))
      have g1 : wr.cell? ⟨g3, k * 3 + 1, none⟩ = some (.slice p1 m1 k1) := (hbel.cell (p := ⟨g3, k * 3 + 1, none⟩) hg3).trans (hcell 1 (by decide))
      have g2 : wr.cell? ⟨g3, k * 3 + 2, none⟩ = some (.slice p2 m2 k2) := (hbel.cell (p := ⟨g3, k * 3 + 2, none⟩) hg3).trans (hcell 2 (by decide))
      have HX : Hid (nd.take (k + 1) = nd.take k ++ [(y0, zb, zf, ())]) := take_snocN nd k hkd _ (by rw [ey0, ezb, ezf]; exact hxe)
      have hkn : (k : Int) < (n3 : Int) := by omega
      obtain ⟨W3, hW3⟩ : ∃ W, W = wr.alloc (.cells #[.int .i64 y0, .slice p1 m1 k1, .slice p2 m2 k2] 65) := ⟨_, rfl⟩
      have bwr3 : Below wr.heap.size wr W3 := by rw [hW3]; exact (Below.refl _ _).alloc (Nat.le_refl _) _
      have zW3 : wr.heap.size < W3.heap.size := by rw [hW3]; simp
      have bW3 : Below w.heap.size w W3 := hbel.trans (bwr3.mono hbs)
      have hb3 : Below W3.heap.size W3 W3 := Below.refl _ _
      have hbn : W3.heap[wr.heap.size]? = some (.cells #[.int .i64 y0, .slice p1 m1 k1, .slice p2 m2 k2] 65 (0, 0)) := by rw [hW3]; exact heap_alloc_new wr _
      have yy0 : W3.cell? ⟨wr.heap.size, 0, none⟩ = some (.int .i64 y0) := box_cell hbn rfl
      have yy1 : W3.cell? ⟨wr.heap.size, 1, none⟩ = some (.slice p1 m1 k1) := box_cell hbn rfl
      have yy2 : W3.cell? ⟨wr.heap.size, 2, none⟩ = some (.slice p2 m2 k2) := box_cell hbn rfl
      have HB3 : Hid (W3.heap[w.heap.size]? = some (.cells #[.int .i64 x0, .int .i64 x1, .int .i64 x2, .slice (some ⟨g3, 0, none⟩) n3 c3, .slice a4 n4 c4, .slice a5 n5 c5] 32 (0, 0)) ∧ W3.heap[w.heap.size + 1]? = some (.cells #[.int .i64 0, .int .i64 0, .int .i64 0, .slice none 0 0, .slice none 0 0, .slice none 0 0] 32 (0, 0)) ∧ W3.heap[w.heap.size + 1 + 1]? = some (.cells #[.int .i64 x0, .int .i64 x1, .int .i64 x2, vv, .slice none 0 0, .slice none 0 0] 32 (0, 0))) := ⟨(bwr3.block _ (by omega)).trans HBX.out.1, (bwr3.block _ (by omega)).trans HBX.out.2.1, (bwr3.block _ (by omega)).trans HBX.out.2.2⟩
      have yo : W3.cell? ⟨w.heap.size + 1 + 1, 3, none⟩ = some vv := box_cell HB3.out.2.2 rfl
      have HW3 : Hid (W3 = wr.alloc (.cells #[.int .i64 y0, .slice p1 m1 k1, .slice p2 m2 k2] 65)) := hW3
      have NB : Hid (some wr.heap.size ≠ vv.ownBlock) := fun h => by have := (HG.out.row.lt _ h.symm).2; omega
      have NO : Hid (some (w.heap.size + 1 + 1) ≠ vv.ownBlock) := fun h => by have := (HG.out.row.lt _ h.symm).1; omega
      clear hcell hox hx hxe ey0 ezb ezf ob os hW3 hsx
      go_wp2_with fail
      rw [← HW3.out]
      refine wp_region_held_drew (S := fun w' => w'.cell? ⟨wr.heap.size, 0, none⟩ = some (.int .i64 y0) ∧ w'.cell? ⟨wr.heap.size, 1, none⟩ = some (.slice p1 m1 k1) ∧ w'.cell? ⟨wr.heap.size, 2, none⟩ = some (.slice p2 m2 k2)) (by kernel_rfl) ⟨box_cell hbn rfl, box_cell hbn rfl, box_cell hbn rfl⟩ (fun hHeld => ?_)
      refine wpAnyH_take (i := 0) (v := .pointer (some ⟨w.heap.size + 1 + 1, 3, none⟩)) rfl (by kernel_rfl) (by kernel_rfl) (by kernel_rfl) (fun _ _ _ h => h) (Or.inl ⟨by kernel_rfl, ?_⟩) (by assumption) ?_
      · intro w9 hSw; (try dsimp only at hSw); go_simp
      simp only [Act.put, List.setIfInBounds_toArray, List.set_cons_zero, List.set_cons_succ]
      refine wpAnyH_take (i := 2) (v := .pointer (some ⟨wr.heap.size, 0, none⟩)) rfl (by kernel_rfl) (by kernel_rfl) (by kernel_rfl) (fun _ _ _ h => h) (Or.inl ⟨by kernel_rfl, ?_⟩) (by assumption) ?_
      · intro w9 hSw; (try dsimp only at hSw); go_simp
      simp only [Act.put, List.setIfInBounds_toArray, List.set_cons_zero, List.set_cons_succ]
      refine wpAnyH_take (i := 3) (v := .int .i64 y0) rfl (by kernel_rfl) (by kernel_rfl) (by kernel_rfl) (fun _ _ _ h => h) (Or.inl ⟨by kernel_rfl, ?_⟩) (by assumption) ?_
      · intro w9 hSw; (try dsimp only at hSw); go_simp
      simp only [Act.put, List.setIfInBounds_toArray, List.set_cons_zero, List.set_cons_succ]
      refine wpAnyH_take (i := 4) (v := .pointer (some ⟨wr.heap.size, 1, none⟩)) rfl (by kernel_rfl) (by kernel_rfl) (by kernel_rfl) (fun _ _ _ h => h) (Or.inl ⟨by kernel_rfl, ?_⟩) (by assumption) ?_
      · intro w9 hSw; (try dsimp only at hSw); go_simp
      simp only [Act.put, List.setIfInBounds_toArray, List.set_cons_zero, List.set_cons_succ]
      refine wpAnyH_take (i := 5) (v := .slice p1 m1 k1) rfl (by kernel_rfl) (by kernel_rfl) (by kernel_rfl) (fun _ _ _ h => h) (Or.inl ⟨by kernel_rfl, ?_⟩) (by assumption) ?_
      · intro w9 hSw; (try dsimp only at hSw); go_simp
      simp only [Act.put, List.setIfInBounds_toArray, List.set_cons_zero, List.set_cons_succ]
      refine wpAnyH_take (i := 7) (v := .pointer (some ⟨wr.heap.size, 2, none⟩)) rfl (by kernel_rfl) (by kernel_rfl) (by kernel_rfl) (fun _ _ _ h => h) (Or.inl ⟨by kernel_rfl, ?_⟩) (by assumption) ?_
      · intro w9 hSw; (try dsimp only at hSw); go_simp
      simp only [Act.put, List.setIfInBounds_toArray, List.set_cons_zero, List.set_cons_succ]
      refine wpAnyH_take (i := 8) (v := .slice p2 m2 k2) rfl (by kernel_rfl) (by kernel_rfl) (by kernel_rfl) (fun _ _ _ h => h) (Or.inl ⟨by kernel_rfl, ?_⟩) (by assumption) ?_
      · intro w9 hSw; (try dsimp only at hSw); go_simp
      simp only [Act.put, List.setIfInBounds_toArray, List.set_cons_zero, List.set_cons_succ]
      refine wpAnyH_ready (rs := [1, 6]) (by kernel_rfl) (by simp) ?_
      refine AllReadyH.cons rfl (fun K hK => ?_) (AllReadyH.cons rfl (fun K hK => ?_) AllReadyH.nil)
      · go_simp
        refine hK.out _ _ ⟨box_cell hbn rfl, box_cell hbn rfl, box_cell hbn rfl⟩ (fun hHeld => ?_)
        clear hK
        refine wpAnyH_ready (rs := [6]) (by kernel_rfl) (by simp) ?_
        refine AllReadyH.cons rfl (fun K hK => ?_) AllReadyH.nil
        go_simp
        refine (QB.out _ bW3.drew).mono ?_
        rintro e w6 ⟨v6, FA, rfl, oA, ndA, hb6⟩
        have hb36 : Below W3.heap.size W3 w6 := hb3.drew.trans (hb6.mono (by simp))
        have zo6 : w6.cell? ⟨w.heap.size + 1 + 1, 3, none⟩ = some vv := (hb36.cell (p := ⟨w.heap.size + 1 + 1, 3, none⟩) (by simp; omega)).trans yo
        have hn6 := (hb36.block _ zW3).trans hbn
        obtain ⟨a6, c6, h6, _⟩ := own_val oA
        have h6' : v6 = .slice a6 zb.length c6 := h6
        clear h6
        subst h6'
        go_wp2_with fail
        refine hK.out _ _ ⟨box_cell hn6 rfl, box_cell hn6 rfl, box_cell hn6 rfl⟩ (fun hHeld => ?_)
        clear hK
        refine wpAnyH_ready (rs := [9]) (by kernel_rfl) (by simp) ?_
        refine AllReadyH.cons rfl (fun K hK => ?_) AllReadyH.nil
        go_simp
        refine (QF.out _ (bW3.trans (hb36.mono bW3.size))).mono ?_
        rintro e w7 ⟨v7, FB, rfl, oB, ndB, hb7⟩
        have hb37 : Below W3.heap.size W3 w7 := hb36.trans (hb7.mono hb36.size)
        have zo7 : w7.cell? ⟨w.heap.size + 1 + 1, 3, none⟩ = some vv := (hb37.cell (p := ⟨w.heap.size + 1 + 1, 3, none⟩) (by simp; omega)).trans yo
        have zl7 : w.heap.size + 1 + 1 < w7.heap.size := by have := hb37.size; omega
        have zl7' : wr.heap.size < w7.heap.size := by have := hb37.size; omega
        have hn7 := (hb37.block _ zW3).trans hbn
        obtain ⟨a7, c7, h7, _⟩ := own_val oB
        have h7' : v7 = .slice a7 zf.length c7 := h7
        clear h7
        subst h7'
        go_wp2_with fail
        refine hK.out _ _ ⟨box_cell hn7 rfl, box_cell hn7 rfl, box_cell hn7 rfl⟩ (fun hHeld => ?_)
        clear hK
        refine wpAnyH_take (i := 10) (v := .agg #[.int .i64 y0, .slice a6 zb.length c6, .slice a7 zf.length c7]) rfl (by kernel_rfl) (by kernel_rfl) (by kernel_rfl) (fun _ _ _ h => h) (Or.inl ⟨by kernel_rfl, ?_⟩) (by assumption) ?_
        · intro w9 hSw; (try dsimp only at hSw); go_simp
        simp only [Act.put, List.setIfInBounds_toArray, List.set_cons_zero, List.set_cons_succ]
        refine wpAnyH_ready (rs := [11]) (by kernel_rfl) (by simp) ?_
        refine AllReadyH.cons rfl (fun K hK => ?_) AllReadyH.nil
        go_simp
        have hnA := (heap_alloc_old w7 (.cells #[.int .i64 y0, .slice a6 zb.length c6, .slice a7 zf.length c7] 65) zl7').trans hn7
        refine hK.out _ _ ⟨box_cell hnA rfl, box_cell hnA rfl, box_cell hnA rfl⟩ (fun hHeld => ?_)
        clear hK
        refine wpAnyH_ready (rs := [12]) (by kernel_rfl) (by simp) ?_
        refine AllReadyH.cons rfl (fun K hK => ?_) AllReadyH.nil
        refine step_append_lies _ (by rfl) _ _ 28 (by rfl) (w.heap.size + 3) 65 i0 (.agg #[.int .i64 0, .slice none 0 0, .slice none 0 0]) 3 56 Try.underlying28 hi hz0 hz1 hz2 rfl (by decide) vv k Cs.flatten (by rfl) ((((HG.out.later bwr3).later hb37).row).alloc _) ⟨w7.heap.size, 0, none⟩ 1 _ [.int .i64 y0, .slice a6 zb.length c6, .slice a7 zf.length c7] (by rfl) rfl (cells_new w7 _ _) (by intro u hu; simp at hu; rcases hu with rfl | rfl | rfl <;> rfl) (by omega) (by unfold maxLen; omega) (by omega) (by have := hb37.size; simp; omega) (w7.heap.size + 1) (by simp) ?_
        intro g8 cap8 w8 hrow8 grow8 at8 lt8
        have hold : ∀ y, y < w.heap.size + 3 → w8.heap[y]? = W3.heap[y]? := fun y hy => (grow8.block y (by have := hb37.size; simp; omega) (fun e => by have := (HG.out.row.lt y e.symm).1; omega)).trans ((heap_alloc_old _ _ (by have := hb37.size; omega)).trans (hb37.block y (by omega)))
        have xo8 := (hold _ (by omega)).trans HB3.out.2.2
        have so8 : w8.cell? ⟨w.heap.size + 1 + 1, 3, none⟩ = some vv := box_cell xo8 rfl
        have fo8 : w8.frozen? ⟨w.heap.size + 1 + 1, 3, none⟩ = false := box_frozen xo8
        have hn8 := (grow8.block _ (by simp; omega) NB.out).trans hnA
        have hn9 := (box_other (w := w8) (b := w.heap.size + 1 + 1) (j := 3) (.slice (some ⟨g8, 0, none⟩) (k + 1) cap8) (k := wr.heap.size) (by omega)).trans hn8
        simp only [Act.put, List.setIfInBounds_toArray, List.set_cons_zero, List.set_cons_succ]
        refine hK.out _ _ ⟨box_cell hn8 rfl, box_cell hn8 rfl, box_cell hn8 rfl⟩ (fun hHeld => ?_)
        clear hK
        refine wpAnyH_take (i := 13) (v := .pointer (some ⟨w.heap.size + 1 + 1, 3, none⟩)) rfl (by kernel_rfl) (by kernel_rfl) (by kernel_rfl) (fun _ _ _ h => h) (Or.inl ⟨by kernel_rfl, ?_⟩) (by assumption) ?_
        · intro w9 hSw; (try dsimp only at hSw); go_simp
        simp only [Act.put, List.setIfInBounds_toArray, List.set_cons_zero, List.set_cons_succ]
        refine wpAnyH_ready (rs := [14]) (by kernel_rfl) (by simp) ?_
        refine AllReadyH.cons rfl (fun K hK => ?_) AllReadyH.nil
        go_simp
        refine hK.out _ _ ⟨box_cell hn9 rfl, box_cell hn9 rfl, box_cell hn9 rfl⟩ (fun hHeld => ?_)
        clear hK
        refine wpAnyH_done (by kernel_rfl) ?_ _
        have bB := bW3.trans (hb37.mono bW3.size)
        have bBs := bB.size
        have hbBs := hb37.size
        have b8 : Below w.heap.size w w8 := (bB.alloc bBs _).grown grow8 (by simp; omega) (fun y h => by have := (HG.out.row.lt y h).1; omega)
        have b9 : Below w.heap.size w (w8.setCell ⟨w.heap.size + 1 + 1, 3, none⟩ (.slice (some ⟨g8, 0, none⟩) (k + 1) cap8)) := b8.setCell (by show w.heap.size ≤ w.heap.size + 1 + 1; omega) _
        have hvl : ∀ y ∈ vv.ownBlock.toList ++ Fs.flatten, w.heap.size + 3 ≤ y ∧ y < wr.heap.size := HG.out.lt
        have oA7 : Own (.sl .u8) w7 W3.heap.size [.slice a6 zb.length c6] zb FA := (oA.keep (fun y hy => hb7.block y (oA.lt y hy).2)).base (by simp)
        have dA : ∀ y ∈ FA, W3.heap.size ≤ y ∧ y < w6.heap.size := fun y hy => ⟨(oA7.lt y hy).1, (oA.lt y hy).2⟩
        have dB : ∀ y ∈ FB, w6.heap.size ≤ y := fun y hy => (oB.lt y hy).1
        have h36 := hb36.size
        have oN : Own shNode (w7.alloc (.cells #[.int .i64 y0, .slice a6 zb.length c6, .slice a7 zf.length c7] 65)) (w.heap.size + 3) [.int .i64 y0, .slice a6 zb.length c6, .slice a7 zf.length c7] (y0, zb, zf, ()) (FA ++ (FB ++ [])) :=
          (own_Node (d := (y0, zb, zf, ())) (oA7.base (by omega)) (oB.base (by omega))).later ((Below.refl _ _).alloc (Nat.le_refl _) _)
        have hnF : (FA ++ (FB ++ [])).Nodup := by
          rw [List.append_nil, List.nodup_append]
          exact ⟨ndA, ndB, fun a ha b hb e => by have h1 := (dA a ha).2; have h2 := dB b hb; omega⟩
        have hdF : ∀ y ∈ FA ++ (FB ++ []), y ∉ vv.ownBlock.toList ++ Fs.flatten := by
          intro y hy hm
          have h1 := (hvl y hm).2
          rw [List.append_nil] at hy
          rcases List.mem_append.1 hy with h2 | h2
          · have := (dA y h2).1; omega
          · have := dB y h2; omega
        have hG8 := (((HG.out.later bwr3).later hb37).later ((Below.refl _ _).alloc (Nat.le_refl _) (.cells #[.int .i64 y0, .slice a6 zb.length c6, .slice a7 zf.length c7] 65))).push oN hnF hdF hrow8 grow8 (by
          rcases at8 with h | h
          · exact .inl h
          · right; simp; omega)
        have HG8 : Hid (Gath shNode 65 (w8.setCell ⟨w.heap.size + 1 + 1, 3, none⟩ (.slice (some ⟨g8, 0, none⟩) (k + 1) cap8)) (w.heap.size + 3) (.slice (some ⟨g8, 0, none⟩) (k + 1) cap8) (k + 1) (nd.take (k + 1)) (Cs ++ [[.int .i64 y0, .slice a6 zb.length c6, .slice a7 zf.length c7]]) (Fs ++ [FA ++ (FB ++ [])])) :=
          (hG8.cast HX.out.symm).other _ _ _ (by omega)
        have HBX8 : Hid ((w8.setCell ⟨w.heap.size + 1 + 1, 3, none⟩ (.slice (some ⟨g8, 0, none⟩) (k + 1) cap8)).heap[w.heap.size]? = some (.cells #[.int .i64 x0, .int .i64 x1, .int .i64 x2, .slice (some ⟨g3, 0, none⟩) n3 c3, .slice a4 n4 c4, .slice a5 n5 c5] 32 (0, 0)) ∧ (w8.setCell ⟨w.heap.size + 1 + 1, 3, none⟩ (.slice (some ⟨g8, 0, none⟩) (k + 1) cap8)).heap[w.heap.size + 1]? = some (.cells #[.int .i64 0, .int .i64 0, .int .i64 0, .slice none 0 0, .slice none 0 0, .slice none 0 0] 32 (0, 0)) ∧ (w8.setCell ⟨w.heap.size + 1 + 1, 3, none⟩ (.slice (some ⟨g8, 0, none⟩) (k + 1) cap8)).heap[w.heap.size + 1 + 1]? = some (.cells #[.int .i64 x0, .int .i64 x1, .int .i64 x2, .slice (some ⟨g8, 0, none⟩) (k + 1) cap8, .slice none 0 0, .slice none 0 0] 32 (0, 0))) := ⟨(box_other _ (by omega)).trans ((hold _ (by omega)).trans HB3.out.1), (box_other _ (by omega)).trans ((hold _ (by omega)).trans HB3.out.2.1), by rw [box_set _ xo8]; rfl⟩
        have hsz8 : w.heap.size + 3 ≤ (w8.setCell ⟨w.heap.size + 1 + 1, 3, none⟩ (.slice (some ⟨g8, 0, none⟩) (k + 1) cap8)).heap.size := by have := grow8.size; simp at this ⊢; omega
        clear HG HBX hG8 oN hnF hdF hvl hold hrow8 grow8 at8 lt8 oA7 oA oB dA dB hb36 hb37 hb6 hb7 yy0 yy1 yy2 g0 g1 g2 NB NO xo8 so8 fo8 zo6 zo7 yo
        go_wp2
        go_roundw
        case rel => exact ⟨k + 1, _, _, _, by omega, by go_num, HG8, b9, hsz8, HBX8⟩
        case measure => simp [intOf]; omega
      · go_simp
        refine (QB.out _ bW3.drew).mono ?_
        rintro e w6 ⟨v6, FA, rfl, oA, ndA, hb6⟩
        have hb36 : Below W3.heap.size W3 w6 := hb3.drew.trans (hb6.mono (by simp))
        have zo6 : w6.cell? ⟨w.heap.size + 1 + 1, 3, none⟩ = some vv := (hb36.cell (p := ⟨w.heap.size + 1 + 1, 3, none⟩) (by simp; omega)).trans yo
        have hn6 := (hb36.block _ zW3).trans hbn
        obtain ⟨a6, c6, h6, _⟩ := own_val oA
        have h6' : v6 = .slice a6 zb.length c6 := h6
        clear h6
        subst h6'
        go_wp2_with fail
        refine hK.out _ _ ⟨box_cell hn6 rfl, box_cell hn6 rfl, box_cell hn6 rfl⟩ (fun hHeld => ?_)
        clear hK
        refine wpAnyH_ready (rs := [1, 9]) (by kernel_rfl) (by simp) ?_
        refine AllReadyH.cons rfl (fun K hK => ?_) (AllReadyH.cons rfl (fun K hK => ?_) AllReadyH.nil)
        · go_simp
          refine hK.out _ _ ⟨box_cell hn6 rfl, box_cell hn6 rfl, box_cell hn6 rfl⟩ (fun hHeld => ?_)
          clear hK
          refine wpAnyH_ready (rs := [9]) (by kernel_rfl) (by simp) ?_
          refine AllReadyH.cons rfl (fun K hK => ?_) AllReadyH.nil
          go_simp
          refine (QF.out _ (bW3.trans (hb36.mono bW3.size))).mono ?_
          rintro e w7 ⟨v7, FB, rfl, oB, ndB, hb7⟩
          have hb37 : Below W3.heap.size W3 w7 := hb36.trans (hb7.mono hb36.size)
          have zo7 : w7.cell? ⟨w.heap.size + 1 + 1, 3, none⟩ = some vv := (hb37.cell (p := ⟨w.heap.size + 1 + 1, 3, none⟩) (by simp; omega)).trans yo
          have zl7 : w.heap.size + 1 + 1 < w7.heap.size := by have := hb37.size; omega
          have zl7' : wr.heap.size < w7.heap.size := by have := hb37.size; omega
          have hn7 := (hb37.block _ zW3).trans hbn
          obtain ⟨a7, c7, h7, _⟩ := own_val oB
          have h7' : v7 = .slice a7 zf.length c7 := h7
          clear h7
          subst h7'
          go_wp2_with fail
          refine hK.out _ _ ⟨box_cell hn7 rfl, box_cell hn7 rfl, box_cell hn7 rfl⟩ (fun hHeld => ?_)
          clear hK
          refine wpAnyH_take (i := 10) (v := .agg #[.int .i64 y0, .slice a6 zb.length c6, .slice a7 zf.length c7]) rfl (by kernel_rfl) (by kernel_rfl) (by kernel_rfl) (fun _ _ _ h => h) (Or.inl ⟨by kernel_rfl, ?_⟩) (by assumption) ?_
          · intro w9 hSw; (try dsimp only at hSw); go_simp
          simp only [Act.put, List.setIfInBounds_toArray, List.set_cons_zero, List.set_cons_succ]
          refine wpAnyH_ready (rs := [11]) (by kernel_rfl) (by simp) ?_
          refine AllReadyH.cons rfl (fun K hK => ?_) AllReadyH.nil
          go_simp
          have hnA := (heap_alloc_old w7 (.cells #[.int .i64 y0, .slice a6 zb.length c6, .slice a7 zf.length c7] 65) zl7').trans hn7
          refine hK.out _ _ ⟨box_cell hnA rfl, box_cell hnA rfl, box_cell hnA rfl⟩ (fun hHeld => ?_)
          clear hK
          refine wpAnyH_ready (rs := [12]) (by kernel_rfl) (by simp) ?_
          refine AllReadyH.cons rfl (fun K hK => ?_) AllReadyH.nil
          refine step_append_lies _ (by rfl) _ _ 28 (by rfl) (w.heap.size + 3) 65 i0 (.agg #[.int .i64 0, .slice none 0 0, .slice none 0 0]) 3 56 Try.underlying28 hi hz0 hz1 hz2 rfl (by decide) vv k Cs.flatten (by rfl) ((((HG.out.later bwr3).later hb37).row).alloc _) ⟨w7.heap.size, 0, none⟩ 1 _ [.int .i64 y0, .slice a6 zb.length c6, .slice a7 zf.length c7] (by rfl) rfl (cells_new w7 _ _) (by intro u hu; simp at hu; rcases hu with rfl | rfl | rfl <;> rfl) (by omega) (by unfold maxLen; omega) (by omega) (by have := hb37.size; simp; omega) (w7.heap.size + 1) (by simp) ?_
          intro g8 cap8 w8 hrow8 grow8 at8 lt8
          have hold : ∀ y, y < w.heap.size + 3 → w8.heap[y]? = W3.heap[y]? := fun y hy => (grow8.block y (by have := hb37.size; simp; omega) (fun e => by have := (HG.out.row.lt y e.symm).1; omega)).trans ((heap_alloc_old _ _ (by have := hb37.size; omega)).trans (hb37.block y (by omega)))
          have xo8 := (hold _ (by omega)).trans HB3.out.2.2
          have so8 : w8.cell? ⟨w.heap.size + 1 + 1, 3, none⟩ = some vv := box_cell xo8 rfl
          have fo8 : w8.frozen? ⟨w.heap.size + 1 + 1, 3, none⟩ = false := box_frozen xo8
          have hn8 := (grow8.block _ (by simp; omega) NB.out).trans hnA
          have hn9 := (box_other (w := w8) (b := w.heap.size + 1 + 1) (j := 3) (.slice (some ⟨g8, 0, none⟩) (k + 1) cap8) (k := wr.heap.size) (by omega)).trans hn8
          simp only [Act.put, List.setIfInBounds_toArray, List.set_cons_zero, List.set_cons_succ]
          refine hK.out _ _ ⟨box_cell hn8 rfl, box_cell hn8 rfl, box_cell hn8 rfl⟩ (fun hHeld => ?_)
          clear hK
          refine wpAnyH_take (i := 13) (v := .pointer (some ⟨w.heap.size + 1 + 1, 3, none⟩)) rfl (by kernel_rfl) (by kernel_rfl) (by kernel_rfl) (fun _ _ _ h => h) (Or.inl ⟨by kernel_rfl, ?_⟩) (by assumption) ?_
          · intro w9 hSw; (try dsimp only at hSw); go_simp
          simp only [Act.put, List.setIfInBounds_toArray, List.set_cons_zero, List.set_cons_succ]
          refine wpAnyH_ready (rs := [14]) (by kernel_rfl) (by simp) ?_
          refine AllReadyH.cons rfl (fun K hK => ?_) AllReadyH.nil
          go_simp
          refine hK.out _ _ ⟨box_cell hn9 rfl, box_cell hn9 rfl, box_cell hn9 rfl⟩ (fun hHeld => ?_)
          clear hK
          refine wpAnyH_done (by kernel_rfl) ?_ _
          have bB := bW3.trans (hb37.mono bW3.size)
          have bBs := bB.size
          have hbBs := hb37.size
          have b8 : Below w.heap.size w w8 := (bB.alloc bBs _).grown grow8 (by simp; omega) (fun y h => by have := (HG.out.row.lt y h).1; omega)
          have b9 : Below w.heap.size w (w8.setCell ⟨w.heap.size + 1 + 1, 3, none⟩ (.slice (some ⟨g8, 0, none⟩) (k + 1) cap8)) := b8.setCell (by show w.heap.size ≤ w.heap.size + 1 + 1; omega) _
          have hvl : ∀ y ∈ vv.ownBlock.toList ++ Fs.flatten, w.heap.size + 3 ≤ y ∧ y < wr.heap.size := HG.out.lt
          have oA7 : Own (.sl .u8) w7 W3.heap.size [.slice a6 zb.length c6] zb FA := (oA.keep (fun y hy => hb7.block y (oA.lt y hy).2)).base (by simp)
          have dA : ∀ y ∈ FA, W3.heap.size ≤ y ∧ y < w6.heap.size := fun y hy => ⟨(oA7.lt y hy).1, (oA.lt y hy).2⟩
          have dB : ∀ y ∈ FB, w6.heap.size ≤ y := fun y hy => (oB.lt y hy).1
          have h36 := hb36.size
          have oN : Own shNode (w7.alloc (.cells #[.int .i64 y0, .slice a6 zb.length c6, .slice a7 zf.length c7] 65)) (w.heap.size + 3) [.int .i64 y0, .slice a6 zb.length c6, .slice a7 zf.length c7] (y0, zb, zf, ()) (FA ++ (FB ++ [])) :=
            (own_Node (d := (y0, zb, zf, ())) (oA7.base (by omega)) (oB.base (by omega))).later ((Below.refl _ _).alloc (Nat.le_refl _) _)
          have hnF : (FA ++ (FB ++ [])).Nodup := by
            rw [List.append_nil, List.nodup_append]
            exact ⟨ndA, ndB, fun a ha b hb e => by have h1 := (dA a ha).2; have h2 := dB b hb; omega⟩
          have hdF : ∀ y ∈ FA ++ (FB ++ []), y ∉ vv.ownBlock.toList ++ Fs.flatten := by
            intro y hy hm
            have h1 := (hvl y hm).2
            rw [List.append_nil] at hy
            rcases List.mem_append.1 hy with h2 | h2
            · have := (dA y h2).1; omega
            · have := dB y h2; omega
          have hG8 := (((HG.out.later bwr3).later hb37).later ((Below.refl _ _).alloc (Nat.le_refl _) (.cells #[.int .i64 y0, .slice a6 zb.length c6, .slice a7 zf.length c7] 65))).push oN hnF hdF hrow8 grow8 (by
            rcases at8 with h | h
            · exact .inl h
            · right; simp; omega)
          have HG8 : Hid (Gath shNode 65 (w8.setCell ⟨w.heap.size + 1 + 1, 3, none⟩ (.slice (some ⟨g8, 0, none⟩) (k + 1) cap8)) (w.heap.size + 3) (.slice (some ⟨g8, 0, none⟩) (k + 1) cap8) (k + 1) (nd.take (k + 1)) (Cs ++ [[.int .i64 y0, .slice a6 zb.length c6, .slice a7 zf.length c7]]) (Fs ++ [FA ++ (FB ++ [])])) :=
            (hG8.cast HX.out.symm).other _ _ _ (by omega)
          have HBX8 : Hid ((w8.setCell ⟨w.heap.size + 1 + 1, 3, none⟩ (.slice (some ⟨g8, 0, none⟩) (k + 1) cap8)).heap[w.heap.size]? = some (.cells #[.int .i64 x0, .int .i64 x1, .int .i64 x2, .slice (some ⟨g3, 0, none⟩) n3 c3, .slice a4 n4 c4, .slice a5 n5 c5] 32 (0, 0)) ∧ (w8.setCell ⟨w.heap.size + 1 + 1, 3, none⟩ (.slice (some ⟨g8, 0, none⟩) (k + 1) cap8)).heap[w.heap.size + 1]? = some (.cells #[.int .i64 0, .int .i64 0, .int .i64 0, .slice none 0 0, .slice none 0 0, .slice none 0 0] 32 (0, 0)) ∧ (w8.setCell ⟨w.heap.size + 1 + 1, 3, none⟩ (.slice (some ⟨g8, 0, none⟩) (k + 1) cap8)).heap[w.heap.size + 1 + 1]? = some (.cells #[.int .i64 x0, .int .i64 x1, .int .i64 x2, .slice (some ⟨g8, 0, none⟩) (k + 1) cap8, .slice none 0 0, .slice none 0 0] 32 (0, 0))) := ⟨(box_other _ (by omega)).trans ((hold _ (by omega)).trans HB3.out.1), (box_other _ (by omega)).trans ((hold _ (by omega)).trans HB3.out.2.1), by rw [box_set _ xo8]; rfl⟩
          have hsz8 : w.heap.size + 3 ≤ (w8.setCell ⟨w.heap.size + 1 + 1, 3, none⟩ (.slice (some ⟨g8, 0, none⟩) (k + 1) cap8)).heap.size := by have := grow8.size; simp at this ⊢; omega
          clear HG HBX hG8 oN hnF hdF hvl hold hrow8 grow8 at8 lt8 oA7 oA oB dA dB hb36 hb37 hb6 hb7 yy0 yy1 yy2 g0 g1 g2 NB NO xo8 so8 fo8 zo6 zo7 yo
          go_wp2
          go_roundw
          case rel => exact ⟨k + 1, _, _, _, by omega, by go_num, HG8, b9, hsz8, HBX8⟩
          case measure => simp [intOf]; omega
        · go_simp
          refine (QF.out _ (bW3.trans (hb36.mono bW3.size))).mono ?_
          rintro e w7 ⟨v7, FB, rfl, oB, ndB, hb7⟩
          have hb37 : Below W3.heap.size W3 w7 := hb36.trans (hb7.mono hb36.size)
          have zo7 : w7.cell? ⟨w.heap.size + 1 + 1, 3, none⟩ = some vv := (hb37.cell (p := ⟨w.heap.size + 1 + 1, 3, none⟩) (by simp; omega)).trans yo
          have zl7 : w.heap.size + 1 + 1 < w7.heap.size := by have := hb37.size; omega
          have zl7' : wr.heap.size < w7.heap.size := by have := hb37.size; omega
          have hn7 := (hb37.block _ zW3).trans hbn
          obtain ⟨a7, c7, h7, _⟩ := own_val oB
          have h7' : v7 = .slice a7 zf.length c7 := h7
          clear h7
          subst h7'
          go_wp2_with fail
          refine hK.out _ _ ⟨box_cell hn7 rfl, box_cell hn7 rfl, box_cell hn7 rfl⟩ (fun hHeld => ?_)
          clear hK
          refine wpAnyH_take (i := 10) (v := .agg #[.int .i64 y0, .slice a6 zb.length c6, .slice a7 zf.length c7]) rfl (by kernel_rfl) (by kernel_rfl) (by kernel_rfl) (fun _ _ _ h => h) (Or.inl ⟨by kernel_rfl, ?_⟩) (by assumption) ?_
          · intro w9 hSw; (try dsimp only at hSw); go_simp
          simp only [Act.put, List.setIfInBounds_toArray, List.set_cons_zero, List.set_cons_succ]
          refine wpAnyH_ready (rs := [1, 11]) (by kernel_rfl) (by simp) ?_
          refine AllReadyH.cons rfl (fun K hK => ?_) (AllReadyH.cons rfl (fun K hK => ?_) AllReadyH.nil)
          · go_simp
            refine hK.out _ _ ⟨box_cell hn7 rfl, box_cell hn7 rfl, box_cell hn7 rfl⟩ (fun hHeld => ?_)
            clear hK
            refine wpAnyH_ready (rs := [11]) (by kernel_rfl) (by simp) ?_
            refine AllReadyH.cons rfl (fun K hK => ?_) AllReadyH.nil
            go_simp
            have hnA := (heap_alloc_old w7 (.cells #[.int .i64 y0, .slice a6 zb.length c6, .slice a7 zf.length c7] 65) zl7').trans hn7
            refine hK.out _ _ ⟨box_cell hnA rfl, box_cell hnA rfl, box_cell hnA rfl⟩ (fun hHeld => ?_)
            clear hK
            refine wpAnyH_ready (rs := [12]) (by kernel_rfl) (by simp) ?_
            refine AllReadyH.cons rfl (fun K hK => ?_) AllReadyH.nil
            refine step_append_lies _ (by rfl) _ _ 28 (by rfl) (w.heap.size + 3) 65 i0 (.agg #[.int .i64 0, .slice none 0 0, .slice none 0 0]) 3 56 Try.underlying28 hi hz0 hz1 hz2 rfl (by decide) vv k Cs.flatten (by rfl) ((((HG.out.later bwr3).later hb37).row).alloc _) ⟨w7.heap.size, 0, none⟩ 1 _ [.int .i64 y0, .slice a6 zb.length c6, .slice a7 zf.length c7] (by rfl) rfl (cells_new w7 _ _) (by intro u hu; simp at hu; rcases hu with rfl | rfl | rfl <;> rfl) (by omega) (by unfold maxLen; omega) (by omega) (by have := hb37.size; simp; omega) (w7.heap.size + 1) (by simp) ?_
            intro g8 cap8 w8 hrow8 grow8 at8 lt8
            have hold : ∀ y, y < w.heap.size + 3 → w8.heap[y]? = W3.heap[y]? := fun y hy => (grow8.block y (by have := hb37.size; simp; omega) (fun e => by have := (HG.out.row.lt y e.symm).1; omega)).trans ((heap_alloc_old _ _ (by have := hb37.size; omega)).trans (hb37.block y (by omega)))
            have xo8 := (hold _ (by omega)).trans HB3.out.2.2
            have so8 : w8.cell? ⟨w.heap.size + 1 + 1, 3, none⟩ = some vv := box_cell xo8 rfl
            have fo8 : w8.frozen? ⟨w.heap.size + 1 + 1, 3, none⟩ = false := box_frozen xo8
            have hn8 := (grow8.block _ (by simp; omega) NB.out).trans hnA
            have hn9 := (box_other (w := w8) (b := w.heap.size + 1 + 1) (j := 3) (.slice (some ⟨g8, 0, none⟩) (k + 1) cap8) (k := wr.heap.size) (by omega)).trans hn8
            simp only [Act.put, List.setIfInBounds_toArray, List.set_cons_zero, List.set_cons_succ]
            refine hK.out _ _ ⟨box_cell hn8 rfl, box_cell hn8 rfl, box_cell hn8 rfl⟩ (fun hHeld => ?_)
            clear hK
            refine wpAnyH_take (i := 13) (v := .pointer (some ⟨w.heap.size + 1 + 1, 3, none⟩)) rfl (by kernel_rfl) (by kernel_rfl) (by kernel_rfl) (fun _ _ _ h => h) (Or.inl ⟨by kernel_rfl, ?_⟩) (by assumption) ?_
            · intro w9 hSw; (try dsimp only at hSw); go_simp
            simp only [Act.put, List.setIfInBounds_toArray, List.set_cons_zero, List.set_cons_succ]
            refine wpAnyH_ready (rs := [14]) (by kernel_rfl) (by simp) ?_
            refine AllReadyH.cons rfl (fun K hK => ?_) AllReadyH.nil
            go_simp
            refine hK.out _ _ ⟨box_cell hn9 rfl, box_cell hn9 rfl, box_cell hn9 rfl⟩ (fun hHeld => ?_)
            clear hK
            refine wpAnyH_done (by kernel_rfl) ?_ _
            have bB := bW3.trans (hb37.mono bW3.size)
            have bBs := bB.size
            have hbBs := hb37.size
            have b8 : Below w.heap.size w w8 := (bB.alloc bBs _).grown grow8 (by simp; omega) (fun y h => by have := (HG.out.row.lt y h).1; omega)
            have b9 : Below w.heap.size w (w8.setCell ⟨w.heap.size + 1 + 1, 3, none⟩ (.slice (some ⟨g8, 0, none⟩) (k + 1) cap8)) := b8.setCell (by show w.heap.size ≤ w.heap.size + 1 + 1; omega) _
            have hvl : ∀ y ∈ vv.ownBlock.toList ++ Fs.flatten, w.heap.size + 3 ≤ y ∧ y < wr.heap.size := HG.out.lt
            have oA7 : Own (.sl .u8) w7 W3.heap.size [.slice a6 zb.length c6] zb FA := (oA.keep (fun y hy => hb7.block y (oA.lt y hy).2)).base (by simp)
            have dA : ∀ y ∈ FA, W3.heap.size ≤ y ∧ y < w6.heap.size := fun y hy => ⟨(oA7.lt y hy).1, (oA.lt y hy).2⟩
            have dB : ∀ y ∈ FB, w6.heap.size ≤ y := fun y hy => (oB.lt y hy).1
            have h36 := hb36.size
            have oN : Own shNode (w7.alloc (.cells #[.int .i64 y0, .slice a6 zb.length c6, .slice a7 zf.length c7] 65)) (w.heap.size + 3) [.int .i64 y0, .slice a6 zb.length c6, .slice a7 zf.length c7] (y0, zb, zf, ()) (FA ++ (FB ++ [])) :=
              (own_Node (d := (y0, zb, zf, ())) (oA7.base (by omega)) (oB.base (by omega))).later ((Below.refl _ _).alloc (Nat.le_refl _) _)
            have hnF : (FA ++ (FB ++ [])).Nodup := by
              rw [List.append_nil, List.nodup_append]
              exact ⟨ndA, ndB, fun a ha b hb e => by have h1 := (dA a ha).2; have h2 := dB b hb; omega⟩
            have hdF : ∀ y ∈ FA ++ (FB ++ []), y ∉ vv.ownBlock.toList ++ Fs.flatten := by
              intro y hy hm
              have h1 := (hvl y hm).2
              rw [List.append_nil] at hy
              rcases List.mem_append.1 hy with h2 | h2
              · have := (dA y h2).1; omega
              · have := dB y h2; omega
            have hG8 := (((HG.out.later bwr3).later hb37).later ((Below.refl _ _).alloc (Nat.le_refl _) (.cells #[.int .i64 y0, .slice a6 zb.length c6, .slice a7 zf.length c7] 65))).push oN hnF hdF hrow8 grow8 (by
              rcases at8 with h | h
              · exact .inl h
              · right; simp; omega)
            have HG8 : Hid (Gath shNode 65 (w8.setCell ⟨w.heap.size + 1 + 1, 3, none⟩ (.slice (some ⟨g8, 0, none⟩) (k + 1) cap8)) (w.heap.size + 3) (.slice (some ⟨g8, 0, none⟩) (k + 1) cap8) (k + 1) (nd.take (k + 1)) (Cs ++ [[.int .i64 y0, .slice a6 zb.length c6, .slice a7 zf.length c7]]) (Fs ++ [FA ++ (FB ++ [])])) :=
              (hG8.cast HX.out.symm).other _ _ _ (by omega)
            have HBX8 : Hid ((w8.setCell ⟨w.heap.size + 1 + 1, 3, none⟩ (.slice (some ⟨g8, 0, none⟩) (k + 1) cap8)).heap[w.heap.size]? = some (.cells #[.int .i64 x0, .int .i64 x1, .int .i64 x2, .slice (some ⟨g3, 0, none⟩) n3 c3, .slice a4 n4 c4, .slice a5 n5 c5] 32 (0, 0)) ∧ (w8.setCell ⟨w.heap.size + 1 + 1, 3, none⟩ (.slice (some ⟨g8, 0, none⟩) (k + 1) cap8)).heap[w.heap.size + 1]? = some (.cells #[.int .i64 0, .int .i64 0, .int .i64 0, .slice none 0 0, .slice none 0 0, .slice none 0 0] 32 (0, 0)) ∧ (w8.setCell ⟨w.heap.size + 1 + 1, 3, none⟩ (.slice (some ⟨g8, 0, none⟩) (k + 1) cap8)).heap[w.heap.size + 1 + 1]? = some (.cells #[.int .i64 x0, .int .i64 x1, .int .i64 x2, .slice (some ⟨g8, 0, none⟩) (k + 1) cap8, .slice none 0 0, .slice none 0 0] 32 (0, 0))) := ⟨(box_other _ (by omega)).trans ((hold _ (by omega)).trans HB3.out.1), (box_other _ (by omega)).trans ((hold _ (by omega)).trans HB3.out.2.1), by rw [box_set _ xo8]; rfl⟩
            have hsz8 : w.heap.size + 3 ≤ (w8.setCell ⟨w.heap.size + 1 + 1, 3, none⟩ (.slice (some ⟨g8, 0, none⟩) (k + 1) cap8)).heap.size := by have := grow8.size; simp at this ⊢; omega
            clear HG HBX hG8 oN hnF hdF hvl hold hrow8 grow8 at8 lt8 oA7 oA oB dA dB hb36 hb37 hb6 hb7 yy0 yy1 yy2 g0 g1 g2 NB NO xo8 so8 fo8 zo6 zo7 yo
            go_wp2
            go_roundw
            case rel => exact ⟨k + 1, _, _, _, by omega, by go_num, HG8, b9, hsz8, HBX8⟩
            case measure => simp [intOf]; omega
          · go_simp
            have hnA := (heap_alloc_old w7 (.cells #[.int .i64 y0, .slice a6 zb.length c6, .slice a7 zf.length c7] 65) zl7').trans hn7
            refine hK.out _ _ ⟨box_cell hnA rfl, box_cell hnA rfl, box_cell hnA rfl⟩ (fun hHeld => ?_)
            clear hK
            refine wpAnyH_ready (rs := [1]) (by kernel_rfl) (by simp) ?_
            refine AllReadyH.cons rfl (fun K hK => ?_) AllReadyH.nil
            go_simp
            refine hK.out _ _ ⟨box_cell hnA rfl, box_cell hnA rfl, box_cell hnA rfl⟩ (fun hHeld => ?_)
            clear hK
            refine wpAnyH_ready (rs := [12]) (by kernel_rfl) (by simp) ?_
            refine AllReadyH.cons rfl (fun K hK => ?_) AllReadyH.nil
            refine step_append_lies _ (by rfl) _ _ 28 (by rfl) (w.heap.size + 3) 65 i0 (.agg #[.int .i64 0, .slice none 0 0, .slice none 0 0]) 3 56 Try.underlying28 hi hz0 hz1 hz2 rfl (by decide) vv k Cs.flatten (by rfl) ((((HG.out.later bwr3).later hb37).row).alloc _) ⟨w7.heap.size, 0, none⟩ 1 _ [.int .i64 y0, .slice a6 zb.length c6, .slice a7 zf.length c7] (by rfl) rfl (cells_new w7 _ _) (by intro u hu; simp at hu; rcases hu with rfl | rfl | rfl <;> rfl) (by omega) (by unfold maxLen; omega) (by omega) (by have := hb37.size; simp; omega) (w7.heap.size + 1) (by simp) ?_
            intro g8 cap8 w8 hrow8 grow8 at8 lt8
            have hold : ∀ y, y < w.heap.size + 3 → w8.heap[y]? = W3.heap[y]? := fun y hy => (grow8.block y (by have := hb37.size; simp; omega) (fun e => by have := (HG.out.row.lt y e.symm).1; omega)).trans ((heap_alloc_old _ _ (by have := hb37.size; omega)).trans (hb37.block y (by omega)))
            have xo8 := (hold _ (by omega)).trans HB3.out.2.2
            have so8 : w8.cell? ⟨w.heap.size + 1 + 1, 3, none⟩ = some vv := box_cell xo8 rfl
            have fo8 : w8.frozen? ⟨w.heap.size + 1 + 1, 3, none⟩ = false := box_frozen xo8
            have hn8 := (grow8.block _ (by simp; omega) NB.out).trans hnA
            have hn9 := (box_other (w := w8) (b := w.heap.size + 1 + 1) (j := 3) (.slice (some ⟨g8, 0, none⟩) (k + 1) cap8) (k := wr.heap.size) (by omega)).trans hn8
            simp only [Act.put, List.setIfInBounds_toArray, List.set_cons_zero, List.set_cons_succ]
            refine hK.out _ _ ⟨box_cell hn8 rfl, box_cell hn8 rfl, box_cell hn8 rfl⟩ (fun hHeld => ?_)
            clear hK
            refine wpAnyH_take (i := 13) (v := .pointer (some ⟨w.heap.size + 1 + 1, 3, none⟩)) rfl (by kernel_rfl) (by kernel_rfl) (by kernel_rfl) (fun _ _ _ h => h) (Or.inl ⟨by kernel_rfl, ?_⟩) (by assumption) ?_
            · intro w9 hSw; (try dsimp only at hSw); go_simp
            simp only [Act.put, List.setIfInBounds_toArray, List.set_cons_zero, List.set_cons_succ]
            refine wpAnyH_ready (rs := [14]) (by kernel_rfl) (by simp) ?_
            refine AllReadyH.cons rfl (fun K hK => ?_) AllReadyH.nil
            go_simp
            refine hK.out _ _ ⟨box_cell hn9 rfl, box_cell hn9 rfl, box_cell hn9 rfl⟩ (fun hHeld => ?_)
            clear hK
            refine wpAnyH_done (by kernel_rfl) ?_ _
            have bB := bW3.trans (hb37.mono bW3.size)
            have bBs := bB.size
            have hbBs := hb37.size
            have b8 : Below w.heap.size w w8 := (bB.alloc bBs _).grown grow8 (by simp; omega) (fun y h => by have := (HG.out.row.lt y h).1; omega)
            have b9 : Below w.heap.size w (w8.setCell ⟨w.heap.size + 1 + 1, 3, none⟩ (.slice (some ⟨g8, 0, none⟩) (k + 1) cap8)) := b8.setCell (by show w.heap.size ≤ w.heap.size + 1 + 1; omega) _
            have hvl : ∀ y ∈ vv.ownBlock.toList ++ Fs.flatten, w.heap.size + 3 ≤ y ∧ y < wr.heap.size := HG.out.lt
            have oA7 : Own (.sl .u8) w7 W3.heap.size [.slice a6 zb.length c6] zb FA := (oA.keep (fun y hy => hb7.block y (oA.lt y hy).2)).base (by simp)
            have dA : ∀ y ∈ FA, W3.heap.size ≤ y ∧ y < w6.heap.size := fun y hy => ⟨(oA7.lt y hy).1, (oA.lt y hy).2⟩
            have dB : ∀ y ∈ FB, w6.heap.size ≤ y := fun y hy => (oB.lt y hy).1
            have h36 := hb36.size
            have oN : Own shNode (w7.alloc (.cells #[.int .i64 y0, .slice a6 zb.length c6, .slice a7 zf.length c7] 65)) (w.heap.size + 3) [.int .i64 y0, .slice a6 zb.length c6, .slice a7 zf.length c7] (y0, zb, zf, ()) (FA ++ (FB ++ [])) :=
              (own_Node (d := (y0, zb, zf, ())) (oA7.base (by omega)) (oB.base (by omega))).later ((Below.refl _ _).alloc (Nat.le_refl _) _)
            have hnF : (FA ++ (FB ++ [])).Nodup := by
              rw [List.append_nil, List.nodup_append]
              exact ⟨ndA, ndB, fun a ha b hb e => by have h1 := (dA a ha).2; have h2 := dB b hb; omega⟩
            have hdF : ∀ y ∈ FA ++ (FB ++ []), y ∉ vv.ownBlock.toList ++ Fs.flatten := by
              intro y hy hm
              have h1 := (hvl y hm).2
              rw [List.append_nil] at hy
              rcases List.mem_append.1 hy with h2 | h2
              · have := (dA y h2).1; omega
              · have := dB y h2; omega
            have hG8 := (((HG.out.later bwr3).later hb37).later ((Below.refl _ _).alloc (Nat.le_refl _) (.cells #[.int .i64 y0, .slice a6 zb.length c6, .slice a7 zf.length c7] 65))).push oN hnF hdF hrow8 grow8 (by
              rcases at8 with h | h
              · exact .inl h
              · right; simp; omega)
            have HG8 : Hid (Gath shNode 65 (w8.setCell ⟨w.heap.size + 1 + 1, 3, none⟩ (.slice (some ⟨g8, 0, none⟩) (k + 1) cap8)) (w.heap.size + 3) (.slice (some ⟨g8, 0, none⟩) (k + 1) cap8) (k + 1) (nd.take (k + 1)) (Cs ++ [[.int .i64 y0, .slice a6 zb.length c6, .slice a7 zf.length c7]]) (Fs ++ [FA ++ (FB ++ [])])) :=
              (hG8.cast HX.out.symm).other _ _ _ (by omega)
            have HBX8 : Hid ((w8.setCell ⟨w.heap.size + 1 + 1, 3, none⟩ (.slice (some ⟨g8, 0, none⟩) (k + 1) cap8)).heap[w.heap.size]? = some (.cells #[.int .i64 x0, .int .i64 x1, .int .i64 x2, .slice (some ⟨g3, 0, none⟩) n3 c3, .slice a4 n4 c4, .slice a5 n5 c5] 32 (0, 0)) ∧ (w8.setCell ⟨w.heap.size + 1 + 1, 3, none⟩ (.slice (some ⟨g8, 0, none⟩) (k + 1) cap8)).heap[w.heap.size + 1]? = some (.cells #[.int .i64 0, .int .i64 0, .int .i64 0, .slice none 0 0, .slice none 0 0, .slice none 0 0] 32 (0, 0)) ∧ (w8.setCell ⟨w.heap.size + 1 + 1, 3, none⟩ (.slice (some ⟨g8, 0, none⟩) (k + 1) cap8)).heap[w.heap.size + 1 + 1]? = some (.cells #[.int .i64 x0, .int .i64 x1, .int .i64 x2, .slice (some ⟨g8, 0, none⟩) (k + 1) cap8, .slice none 0 0, .slice none 0 0] 32 (0, 0))) := ⟨(box_other _ (by omega)).trans ((hold _ (by omega)).trans HB3.out.1), (box_other _ (by omega)).trans ((hold _ (by omega)).trans HB3.out.2.1), by rw [box_set _ xo8]; rfl⟩
            have hsz8 : w.heap.size + 3 ≤ (w8.setCell ⟨w.heap.size + 1 + 1, 3, none⟩ (.slice (some ⟨g8, 0, none⟩) (k + 1) cap8)).heap.size := by have := grow8.size; simp at this ⊢; omega
            clear HG HBX hG8 oN hnF hdF hvl hold hrow8 grow8 at8 lt8 oA7 oA oB dA dB hb36 hb37 hb6 hb7 yy0 yy1 yy2 g0 g1 g2 NB NO xo8 so8 fo8 zo6 zo7 yo
            go_wp2
            go_roundw
            case rel => exact ⟨k + 1, _, _, _, by omega, by go_num, HG8, b9, hsz8, HBX8⟩
            case measure => simp [intOf]; omega
    · have e : k = n3 := by omega
      subst e
      obtain ⟨wp, rfl⟩ : ∃ x, x = wr := ⟨wr, rfl⟩
      have e9 : nd.take k = nd := List.take_of_length_le (by have := HL.out.1; omega)
      have hGa : Hid (Gath shNode 65 wp (w.heap.size + 3) vv k nd Cs Fs) := HG.out.cast e9
      clear HG e9
      obtain ⟨av, cv, rfl⟩ := hGa.out.form
      have HLN : Hid (∀ y ∈ (Value.slice av k cv).ownBlock.toList ++ Fs.flatten, w.heap.size + 3 ≤ y ∧ y < wp.heap.size) := hGa.out.lt
      have q4 : wp.cell? ⟨w.heap.size, 4, none⟩ = some (.slice a4 n4 c4) := box_cell HBX.out.1 rfl
      clear H0 HW1 hlt hk
      go_wp2
      clear q4
      go_loopw [42] (fun i wq => ∃ (k2 : Nat) (v2 : Value), k2 ≤ n4 ∧ i = .int .i64 k2 ∧ Hid (wq.ownsRow wp.heap.size 66 2 v2 k2 (cellsL (kp.take k2))) ∧ Hid (Gath shNode 65 wq (w.heap.size + 3) (.slice av k cv) k nd Cs Fs) ∧ Below w.heap.size w wq ∧ wp.heap.size ≤ wq.heap.size ∧
          Hid (wq.heap[w.heap.size]? = some (.cells #[.int .i64 x0, .int .i64 x1, .int .i64 x2, .slice a3 k c3, .slice a4 n4 c4, .slice a5 n5 c5] 32 (0, 0)) ∧ wq.heap[w.heap.size + 1]? = some (.cells #[.int .i64 0, .int .i64 0, .int .i64 0, .slice none 0 0, .slice none 0 0, .slice none 0 0] 32 (0, 0)) ∧ wq.heap[w.heap.size + 1 + 1]? = some (.cells #[.int .i64 x0, .int .i64 x1, .int .i64 x2, .slice av k cv, v2, .slice none 0 0] 32 (0, 0)))) (fun i _ => n4 - (intOf i).toNat)
      case atStart => exact ⟨0, .slice none 0 0, Nat.zero_le _, rfl, ⟨by simp [cellsL], .inl ⟨rfl, rfl⟩⟩, hGa, hbel, Nat.le_refl _, HBX⟩
      case round =>
        clear hGa HBX hbel
        obtain ⟨k2, v2, hk, rfl, HV, HG, hbel, hszq, HBX⟩ := hrel
        obtain ⟨wq, rfl⟩ : ∃ x, x = wr := ⟨wr, rfl⟩
        have hbs2 := hbel.size
        by_cases hlt : k2 < n4
        · obtain ⟨g4, cc, x, fx, ha4, hg4, hx, hox, _, hcell⟩ := own_get HR.out.2.1 k2 hlt
          subst ha4
          obtain ⟨hkd, hxe⟩ := at_some' hx
          have hsx := link_sz hx
          obtain ⟨rfl, _⟩ := open_Link hox.reads
          obtain ⟨y0, ey0⟩ : ∃ y : ByteArray, y = x.1 := ⟨_, rfl⟩
          obtain ⟨y1, ey1⟩ : ∃ y : Int, y = x.2.1 := ⟨_, rfl⟩
          have hy0s : y0.size ≤ 1048576 := by rw [ey0]; have := HSN.out.2.1; omega
          have QS : Hid (∀ w', Calls Try.prog 76 #[.string y0] w' fun e w'' => e = .returned (.string y0) ∧ Below w'.heap.size w' w'') := fun w' => cloneS_any y0 w' hy0s
          have g0 : wq.cell? ⟨g4, k2 * 2, none⟩ = some (.string y0) := by rw [ey0]; exact (hbel.cell (p := ⟨g4, k2 * 2 + 0, none⟩) hg4).trans (hcell 0 (by decide))
          have g1 : wq.cell? ⟨g4, k2 * 2 + 1, none⟩ = some (.int .i64 y1) := by rw [ey1]; exact (hbel.cell (p := ⟨g4, k2 * 2 + 1, none⟩) hg4).trans (hcell 1 (by decide))
          have HX : Hid (kp.take (k2 + 1) = kp.take k2 ++ [(y0, y1, ())]) := take_snocLk kp k2 hkd _ (by rw [ey0, ey1]; exact hxe)
          have hkn : (k2 : Int) < (n4 : Int) := by omega
          obtain ⟨W3, hW3⟩ : ∃ W, W = wq.alloc (.cells #[.string y0, .int .i64 y1] 66) := ⟨_, rfl⟩
          have bwr3 : Below wq.heap.size wq W3 := by rw [hW3]; exact (Below.refl _ _).alloc (Nat.le_refl _) _
          have zW3 : wq.heap.size < W3.heap.size := by rw [hW3]; simp
          have bW3 : Below w.heap.size w W3 := hbel.trans (bwr3.mono hbs2)
          have hb3 : Below W3.heap.size W3 W3 := Below.refl _ _
          have hbn : W3.heap[wq.heap.size]? = some (.cells #[.string y0, .int .i64 y1] 66 (0, 0)) := by rw [hW3]; exact heap_alloc_new wq _
          have HB3 : Hid (W3.heap[w.heap.size]? = some (.cells #[.int .i64 x0, .int .i64 x1, .int .i64 x2, .slice a3 k c3, .slice (some ⟨g4, 0, none⟩) n4 c4, .slice a5 n5 c5] 32 (0, 0)) ∧ W3.heap[w.heap.size + 1]? = some (.cells #[.int .i64 0, .int .i64 0, .int .i64 0, .slice none 0 0, .slice none 0 0, .slice none 0 0] 32 (0, 0)) ∧ W3.heap[w.heap.size + 1 + 1]? = some (.cells #[.int .i64 x0, .int .i64 x1, .int .i64 x2, .slice av k cv, v2, .slice none 0 0] 32 (0, 0))) := ⟨(bwr3.block _ (by omega)).trans HBX.out.1, (bwr3.block _ (by omega)).trans HBX.out.2.1, (bwr3.block _ (by omega)).trans HBX.out.2.2⟩
          have yo : W3.cell? ⟨w.heap.size + 1 + 1, 4, none⟩ = some v2 := box_cell HB3.out.2.2 rfl
          have HW3 : Hid (W3 = wq.alloc (.cells #[.string y0, .int .i64 y1] 66)) := hW3
          have NB : Hid (some wq.heap.size ≠ v2.ownBlock) := fun h => by have := (HV.out.lt _ h.symm).2; omega
          clear hcell hox hx hxe ey0 ey1 hW3 hsx hy0s
          go_wp2_with fail
          rw [← HW3.out]
          refine wp_region_held_drew (S := fun w' => w'.cell? ⟨wq.heap.size, 0, none⟩ = some (.string y0) ∧ w'.cell? ⟨wq.heap.size, 1, none⟩ = some (.int .i64 y1)) (by kernel_rfl) ⟨box_cell hbn rfl, box_cell hbn rfl⟩ (fun hHeld => ?_)
          refine wpAnyH_take (i := 0) (v := .pointer (some ⟨w.heap.size + 1 + 1, 4, none⟩)) rfl (by kernel_rfl) (by kernel_rfl) (by kernel_rfl) (fun _ _ _ h => h) (Or.inl ⟨by kernel_rfl, ?_⟩) (by assumption) ?_
          · intro w9 hSw; (try dsimp only at hSw); go_simp
          simp only [Act.put, List.setIfInBounds_toArray, List.set_cons_zero, List.set_cons_succ]
          refine wpAnyH_take (i := 2) (v := .pointer (some ⟨wq.heap.size, 0, none⟩)) rfl (by kernel_rfl) (by kernel_rfl) (by kernel_rfl) (fun _ _ _ h => h) (Or.inl ⟨by kernel_rfl, ?_⟩) (by assumption) ?_
          · intro w9 hSw; (try dsimp only at hSw); go_simp
          simp only [Act.put, List.setIfInBounds_toArray, List.set_cons_zero, List.set_cons_succ]
          refine wpAnyH_take (i := 3) (v := .string y0) rfl (by kernel_rfl) (by kernel_rfl) (by kernel_rfl) (fun _ _ _ h => h) (Or.inl ⟨by kernel_rfl, ?_⟩) (by assumption) ?_
          · intro w9 hSw; (try dsimp only at hSw); go_simp
          simp only [Act.put, List.setIfInBounds_toArray, List.set_cons_zero, List.set_cons_succ]
          refine wpAnyH_take (i := 5) (v := .pointer (some ⟨wq.heap.size, 1, none⟩)) rfl (by kernel_rfl) (by kernel_rfl) (by kernel_rfl) (fun _ _ _ h => h) (Or.inl ⟨by kernel_rfl, ?_⟩) (by assumption) ?_
          · intro w9 hSw; (try dsimp only at hSw); go_simp
          simp only [Act.put, List.setIfInBounds_toArray, List.set_cons_zero, List.set_cons_succ]
          refine wpAnyH_take (i := 6) (v := .int .i64 y1) rfl (by kernel_rfl) (by kernel_rfl) (by kernel_rfl) (fun _ _ _ h => h) (Or.inl ⟨by kernel_rfl, ?_⟩) (by assumption) ?_
          · intro w9 hSw; (try dsimp only at hSw); go_simp
          simp only [Act.put, List.setIfInBounds_toArray, List.set_cons_zero, List.set_cons_succ]
          refine wpAnyH_ready (rs := [1, 4]) (by kernel_rfl) (by simp) ?_
          refine AllReadyH.cons rfl (fun K hK => ?_) (AllReadyH.cons rfl (fun K hK => ?_) AllReadyH.nil)
          · go_simp
            refine hK.out _ _ ⟨box_cell hbn rfl, box_cell hbn rfl⟩ (fun hHeld => ?_)
            clear hK
            refine wpAnyH_ready (rs := [4]) (by kernel_rfl) (by simp) ?_
            refine AllReadyH.cons rfl (fun K hK => ?_) AllReadyH.nil
            go_simp
            refine (QS.out _).mono ?_
            rintro e w6 ⟨rfl, hb6⟩
            have hb36 : Below W3.heap.size W3 w6 := hb3.drew.trans (hb6.mono (by simp))
            have zo6 : w6.cell? ⟨w.heap.size + 1 + 1, 4, none⟩ = some v2 := (hb36.cell (p := ⟨w.heap.size + 1 + 1, 4, none⟩) (by simp; omega)).trans yo
            have zl6 : w.heap.size + 1 + 1 < w6.heap.size := by have := hb36.size; omega
            have zl6' : wq.heap.size < w6.heap.size := by have := hb36.size; omega
            have hn6 := (hb36.block _ zW3).trans hbn
            go_wp2_with fail
            refine hK.out _ _ ⟨box_cell hn6 rfl, box_cell hn6 rfl⟩ (fun hHeld => ?_)
            clear hK
            refine wpAnyH_take (i := 7) (v := .agg #[.string y0, .int .i64 y1]) rfl (by kernel_rfl) (by kernel_rfl) (by kernel_rfl) (fun _ _ _ h => h) (Or.inl ⟨by kernel_rfl, ?_⟩) (by assumption) ?_
            · intro w9 hSw; (try dsimp only at hSw); go_simp
            simp only [Act.put, List.setIfInBounds_toArray, List.set_cons_zero, List.set_cons_succ]
            refine wpAnyH_ready (rs := [8]) (by kernel_rfl) (by simp) ?_
            refine AllReadyH.cons rfl (fun K hK => ?_) AllReadyH.nil
            go_simp
            have hnA := (heap_alloc_old w6 (.cells #[.string y0, .int .i64 y1] 66) zl6').trans hn6
            refine hK.out _ _ ⟨box_cell hnA rfl, box_cell hnA rfl⟩ (fun hHeld => ?_)
            clear hK
            refine wpAnyH_ready (rs := [9]) (by kernel_rfl) (by simp) ?_
            refine AllReadyH.cons rfl (fun K hK => ?_) AllReadyH.nil
            refine step_append_lies _ (by rfl) _ _ 29 (by rfl) wp.heap.size 66 j0 (.agg #[.string ByteArray.empty, .int .i64 0]) 2 24 Try.underlying29 hj hy0 hy1 hy2 rfl (by decide) v2 k2 (cellsL (kp.take k2)) (by rfl) ((own_later (own_later HV.out bwr3) hb36).alloc _) ⟨w6.heap.size, 0, none⟩ 1 _ [.string y0, .int .i64 y1] (by rfl) rfl (cells_new w6 _ _) (by intro u hu; simp at hu; rcases hu with rfl | rfl <;> rfl) (by omega) (by unfold maxLen; omega) (by omega) (by have := hb36.size; simp; omega) (w6.heap.size + 1) (by simp) ?_
            intro g8 cap8 w8 hrow8 grow8 at8 lt8
            have hold : ∀ y, y < wp.heap.size → w8.heap[y]? = wq.heap[y]? := fun y hy => (grow8.block y (by have := hb36.size; simp; omega) (fun e => by have := (HV.out.lt y e.symm).1; omega)).trans ((heap_alloc_old _ _ (by have := hb36.size; omega)).trans ((hb36.block y (by omega)).trans (bwr3.block y (by omega))))
            have xo8 := (hold _ (by omega)).trans HBX.out.2.2
            have so8 : w8.cell? ⟨w.heap.size + 1 + 1, 4, none⟩ = some v2 := box_cell xo8 rfl
            have fo8 : w8.frozen? ⟨w.heap.size + 1 + 1, 4, none⟩ = false := box_frozen xo8
            have hn8 := (grow8.block _ (by simp; omega) NB.out).trans hnA
            have hn9 := (box_other (w := w8) (b := w.heap.size + 1 + 1) (j := 4) (.slice (some ⟨g8, 0, none⟩) (k2 + 1) cap8) (k := wq.heap.size) (by omega)).trans hn8
            simp only [Act.put, List.setIfInBounds_toArray, List.set_cons_zero, List.set_cons_succ]
            refine hK.out _ _ ⟨box_cell hn8 rfl, box_cell hn8 rfl⟩ (fun hHeld => ?_)
            clear hK
            refine wpAnyH_take (i := 10) (v := .pointer (some ⟨w.heap.size + 1 + 1, 4, none⟩)) rfl (by kernel_rfl) (by kernel_rfl) (by kernel_rfl) (fun _ _ _ h => h) (Or.inl ⟨by kernel_rfl, ?_⟩) (by assumption) ?_
            · intro w9 hSw; (try dsimp only at hSw); go_simp
            simp only [Act.put, List.setIfInBounds_toArray, List.set_cons_zero, List.set_cons_succ]
            refine wpAnyH_ready (rs := [11]) (by kernel_rfl) (by simp) ?_
            refine AllReadyH.cons rfl (fun K hK => ?_) AllReadyH.nil
            go_simp
            refine hK.out _ _ ⟨box_cell hn9 rfl, box_cell hn9 rfl⟩ (fun hHeld => ?_)
            clear hK
            refine wpAnyH_done (by kernel_rfl) ?_ _
            have bB := bW3.trans (hb36.mono bW3.size)
            have bBs := bB.size
            have hbBs := hb36.size
            have b8 : Below w.heap.size w w8 := (bB.alloc bBs _).grown grow8 (by simp; omega) (fun y h => by have := (HV.out.lt y h).1; omega)
            have b9 : Below w.heap.size w (w8.setCell ⟨w.heap.size + 1 + 1, 4, none⟩ (.slice (some ⟨g8, 0, none⟩) (k2 + 1) cap8)) := b8.setCell (by show w.heap.size ≤ w.heap.size + 1 + 1; omega) _
            have HV8 : Hid ((w8.setCell ⟨w.heap.size + 1 + 1, 4, none⟩ (.slice (some ⟨g8, 0, none⟩) (k2 + 1) cap8)).ownsRow wp.heap.size 66 2 (.slice (some ⟨g8, 0, none⟩) (k2 + 1) cap8) (k2 + 1) (cellsL (kp.take (k2 + 1)))) := by
              show World.ownsRow _ _ _ _ _ _ _
              have h1 : w8.ownsRow wp.heap.size 66 2 (.slice (some ⟨g8, 0, none⟩) (k2 + 1) cap8) (k2 + 1) (cellsL (kp.take (k2 + 1))) := by rw [HX.out, cellsL_snoc]; exact hrow8
              refine ⟨h1.1, ?_⟩
              rcases h1.2 with ⟨h2, _⟩ | ⟨g', cap', cur, hv, hg, hh, r⟩
              · simp at h2
              · exact .inr ⟨g', cap', cur, hv, hg, (box_other _ (by omega)).trans hh, r⟩
            have HG8 : Hid (Gath shNode 65 (w8.setCell ⟨w.heap.size + 1 + 1, 4, none⟩ (.slice (some ⟨g8, 0, none⟩) (k2 + 1) cap8)) (w.heap.size + 3) (.slice av k cv) k nd Cs Fs) := (HG.out.keep (fun y hy => hold y (by have := (HLN.out y hy).2; omega))).other _ _ _ (by omega)
            have HBX8 : Hid ((w8.setCell ⟨w.heap.size + 1 + 1, 4, none⟩ (.slice (some ⟨g8, 0, none⟩) (k2 + 1) cap8)).heap[w.heap.size]? = some (.cells #[.int .i64 x0, .int .i64 x1, .int .i64 x2, .slice a3 k c3, .slice (some ⟨g4, 0, none⟩) n4 c4, .slice a5 n5 c5] 32 (0, 0)) ∧ (w8.setCell ⟨w.heap.size + 1 + 1, 4, none⟩ (.slice (some ⟨g8, 0, none⟩) (k2 + 1) cap8)).heap[w.heap.size + 1]? = some (.cells #[.int .i64 0, .int .i64 0, .int .i64 0, .slice none 0 0, .slice none 0 0, .slice none 0 0] 32 (0, 0)) ∧ (w8.setCell ⟨w.heap.size + 1 + 1, 4, none⟩ (.slice (some ⟨g8, 0, none⟩) (k2 + 1) cap8)).heap[w.heap.size + 1 + 1]? = some (.cells #[.int .i64 x0, .int .i64 x1, .int .i64 x2, .slice av k cv, .slice (some ⟨g8, 0, none⟩) (k2 + 1) cap8, .slice none 0 0] 32 (0, 0))) := ⟨(box_other _ (by omega)).trans ((hold _ (by omega)).trans HBX.out.1), (box_other _ (by omega)).trans ((hold _ (by omega)).trans HBX.out.2.1), by rw [box_set _ xo8]; rfl⟩
            have hsz8 : wp.heap.size ≤ (w8.setCell ⟨w.heap.size + 1 + 1, 4, none⟩ (.slice (some ⟨g8, 0, none⟩) (k2 + 1) cap8)).heap.size := by have := grow8.size; simp at this ⊢; omega
            clear HV HG HBX hold hrow8 grow8 at8 lt8 NB xo8 so8 fo8 yo hb36 hb6 g0 g1 zo6
            go_wp2
            go_roundw
            case rel => exact ⟨k2 + 1, _, by omega, by go_num, HV8, HG8, b9, hsz8, HBX8⟩
            case measure => simp [intOf]; omega
          · go_simp
            refine (QS.out _).mono ?_
            rintro e w6 ⟨rfl, hb6⟩
            have hb36 : Below W3.heap.size W3 w6 := hb3.drew.trans (hb6.mono (by simp))
            have zo6 : w6.cell? ⟨w.heap.size + 1 + 1, 4, none⟩ = some v2 := (hb36.cell (p := ⟨w.heap.size + 1 + 1, 4, none⟩) (by simp; omega)).trans yo
            have zl6 : w.heap.size + 1 + 1 < w6.heap.size := by have := hb36.size; omega
            have zl6' : wq.heap.size < w6.heap.size := by have := hb36.size; omega
            have hn6 := (hb36.block _ zW3).trans hbn
            go_wp2_with fail
            refine hK.out _ _ ⟨box_cell hn6 rfl, box_cell hn6 rfl⟩ (fun hHeld => ?_)
            clear hK
            refine wpAnyH_take (i := 7) (v := .agg #[.string y0, .int .i64 y1]) rfl (by kernel_rfl) (by kernel_rfl) (by kernel_rfl) (fun _ _ _ h => h) (Or.inl ⟨by kernel_rfl, ?_⟩) (by assumption) ?_
            · intro w9 hSw; (try dsimp only at hSw); go_simp
            simp only [Act.put, List.setIfInBounds_toArray, List.set_cons_zero, List.set_cons_succ]
            refine wpAnyH_ready (rs := [1, 8]) (by kernel_rfl) (by simp) ?_
            refine AllReadyH.cons rfl (fun K hK => ?_) (AllReadyH.cons rfl (fun K hK => ?_) AllReadyH.nil)
            · go_simp
              refine hK.out _ _ ⟨box_cell hn6 rfl, box_cell hn6 rfl⟩ (fun hHeld => ?_)
              clear hK
              refine wpAnyH_ready (rs := [8]) (by kernel_rfl) (by simp) ?_
              refine AllReadyH.cons rfl (fun K hK => ?_) AllReadyH.nil
              go_simp
              have hnA := (heap_alloc_old w6 (.cells #[.string y0, .int .i64 y1] 66) zl6').trans hn6
              refine hK.out _ _ ⟨box_cell hnA rfl, box_cell hnA rfl⟩ (fun hHeld => ?_)
              clear hK
              refine wpAnyH_ready (rs := [9]) (by kernel_rfl) (by simp) ?_
              refine AllReadyH.cons rfl (fun K hK => ?_) AllReadyH.nil
              refine step_append_lies _ (by rfl) _ _ 29 (by rfl) wp.heap.size 66 j0 (.agg #[.string ByteArray.empty, .int .i64 0]) 2 24 Try.underlying29 hj hy0 hy1 hy2 rfl (by decide) v2 k2 (cellsL (kp.take k2)) (by rfl) ((own_later (own_later HV.out bwr3) hb36).alloc _) ⟨w6.heap.size, 0, none⟩ 1 _ [.string y0, .int .i64 y1] (by rfl) rfl (cells_new w6 _ _) (by intro u hu; simp at hu; rcases hu with rfl | rfl <;> rfl) (by omega) (by unfold maxLen; omega) (by omega) (by have := hb36.size; simp; omega) (w6.heap.size + 1) (by simp) ?_
              intro g8 cap8 w8 hrow8 grow8 at8 lt8
              have hold : ∀ y, y < wp.heap.size → w8.heap[y]? = wq.heap[y]? := fun y hy => (grow8.block y (by have := hb36.size; simp; omega) (fun e => by have := (HV.out.lt y e.symm).1; omega)).trans ((heap_alloc_old _ _ (by have := hb36.size; omega)).trans ((hb36.block y (by omega)).trans (bwr3.block y (by omega))))
              have xo8 := (hold _ (by omega)).trans HBX.out.2.2
              have so8 : w8.cell? ⟨w.heap.size + 1 + 1, 4, none⟩ = some v2 := box_cell xo8 rfl
              have fo8 : w8.frozen? ⟨w.heap.size + 1 + 1, 4, none⟩ = false := box_frozen xo8
              have hn8 := (grow8.block _ (by simp; omega) NB.out).trans hnA
              have hn9 := (box_other (w := w8) (b := w.heap.size + 1 + 1) (j := 4) (.slice (some ⟨g8, 0, none⟩) (k2 + 1) cap8) (k := wq.heap.size) (by omega)).trans hn8
              simp only [Act.put, List.setIfInBounds_toArray, List.set_cons_zero, List.set_cons_succ]
              refine hK.out _ _ ⟨box_cell hn8 rfl, box_cell hn8 rfl⟩ (fun hHeld => ?_)
              clear hK
              refine wpAnyH_take (i := 10) (v := .pointer (some ⟨w.heap.size + 1 + 1, 4, none⟩)) rfl (by kernel_rfl) (by kernel_rfl) (by kernel_rfl) (fun _ _ _ h => h) (Or.inl ⟨by kernel_rfl, ?_⟩) (by assumption) ?_
              · intro w9 hSw; (try dsimp only at hSw); go_simp
              simp only [Act.put, List.setIfInBounds_toArray, List.set_cons_zero, List.set_cons_succ]
              refine wpAnyH_ready (rs := [11]) (by kernel_rfl) (by simp) ?_
              refine AllReadyH.cons rfl (fun K hK => ?_) AllReadyH.nil
              go_simp
              refine hK.out _ _ ⟨box_cell hn9 rfl, box_cell hn9 rfl⟩ (fun hHeld => ?_)
              clear hK
              refine wpAnyH_done (by kernel_rfl) ?_ _
              have bB := bW3.trans (hb36.mono bW3.size)
              have bBs := bB.size
              have hbBs := hb36.size
              have b8 : Below w.heap.size w w8 := (bB.alloc bBs _).grown grow8 (by simp; omega) (fun y h => by have := (HV.out.lt y h).1; omega)
              have b9 : Below w.heap.size w (w8.setCell ⟨w.heap.size + 1 + 1, 4, none⟩ (.slice (some ⟨g8, 0, none⟩) (k2 + 1) cap8)) := b8.setCell (by show w.heap.size ≤ w.heap.size + 1 + 1; omega) _
              have HV8 : Hid ((w8.setCell ⟨w.heap.size + 1 + 1, 4, none⟩ (.slice (some ⟨g8, 0, none⟩) (k2 + 1) cap8)).ownsRow wp.heap.size 66 2 (.slice (some ⟨g8, 0, none⟩) (k2 + 1) cap8) (k2 + 1) (cellsL (kp.take (k2 + 1)))) := by
                show World.ownsRow _ _ _ _ _ _ _
                have h1 : w8.ownsRow wp.heap.size 66 2 (.slice (some ⟨g8, 0, none⟩) (k2 + 1) cap8) (k2 + 1) (cellsL (kp.take (k2 + 1))) := by rw [HX.out, cellsL_snoc]; exact hrow8
                refine ⟨h1.1, ?_⟩
                rcases h1.2 with ⟨h2, _⟩ | ⟨g', cap', cur, hv, hg, hh, r⟩
                · simp at h2
                · exact .inr ⟨g', cap', cur, hv, hg, (box_other _ (by omega)).trans hh, r⟩
              have HG8 : Hid (Gath shNode 65 (w8.setCell ⟨w.heap.size + 1 + 1, 4, none⟩ (.slice (some ⟨g8, 0, none⟩) (k2 + 1) cap8)) (w.heap.size + 3) (.slice av k cv) k nd Cs Fs) := (HG.out.keep (fun y hy => hold y (by have := (HLN.out y hy).2; omega))).other _ _ _ (by omega)
              have HBX8 : Hid ((w8.setCell ⟨w.heap.size + 1 + 1, 4, none⟩ (.slice (some ⟨g8, 0, none⟩) (k2 + 1) cap8)).heap[w.heap.size]? = some (.cells #[.int .i64 x0, .int .i64 x1, .int .i64 x2, .slice a3 k c3, .slice (some ⟨g4, 0, none⟩) n4 c4, .slice a5 n5 c5] 32 (0, 0)) ∧ (w8.setCell ⟨w.heap.size + 1 + 1, 4, none⟩ (.slice (some ⟨g8, 0, none⟩) (k2 + 1) cap8)).heap[w.heap.size + 1]? = some (.cells #[.int .i64 0, .int .i64 0, .int .i64 0, .slice none 0 0, .slice none 0 0, .slice none 0 0] 32 (0, 0)) ∧ (w8.setCell ⟨w.heap.size + 1 + 1, 4, none⟩ (.slice (some ⟨g8, 0, none⟩) (k2 + 1) cap8)).heap[w.heap.size + 1 + 1]? = some (.cells #[.int .i64 x0, .int .i64 x1, .int .i64 x2, .slice av k cv, .slice (some ⟨g8, 0, none⟩) (k2 + 1) cap8, .slice none 0 0] 32 (0, 0))) := ⟨(box_other _ (by omega)).trans ((hold _ (by omega)).trans HBX.out.1), (box_other _ (by omega)).trans ((hold _ (by omega)).trans HBX.out.2.1), by rw [box_set _ xo8]; rfl⟩
              have hsz8 : wp.heap.size ≤ (w8.setCell ⟨w.heap.size + 1 + 1, 4, none⟩ (.slice (some ⟨g8, 0, none⟩) (k2 + 1) cap8)).heap.size := by have := grow8.size; simp at this ⊢; omega
              clear HV HG HBX hold hrow8 grow8 at8 lt8 NB xo8 so8 fo8 yo hb36 hb6 g0 g1 zo6
              go_wp2
              go_roundw
              case rel => exact ⟨k2 + 1, _, by omega, by go_num, HV8, HG8, b9, hsz8, HBX8⟩
              case measure => simp [intOf]; omega
            · go_simp
              have hnA := (heap_alloc_old w6 (.cells #[.string y0, .int .i64 y1] 66) zl6').trans hn6
              refine hK.out _ _ ⟨box_cell hnA rfl, box_cell hnA rfl⟩ (fun hHeld => ?_)
              clear hK
              refine wpAnyH_ready (rs := [1]) (by kernel_rfl) (by simp) ?_
              refine AllReadyH.cons rfl (fun K hK => ?_) AllReadyH.nil
              go_simp
              refine hK.out _ _ ⟨box_cell hnA rfl, box_cell hnA rfl⟩ (fun hHeld => ?_)
              clear hK
              refine wpAnyH_ready (rs := [9]) (by kernel_rfl) (by simp) ?_
              refine AllReadyH.cons rfl (fun K hK => ?_) AllReadyH.nil
              refine step_append_lies _ (by rfl) _ _ 29 (by rfl) wp.heap.size 66 j0 (.agg #[.string ByteArray.empty, .int .i64 0]) 2 24 Try.underlying29 hj hy0 hy1 hy2 rfl (by decide) v2 k2 (cellsL (kp.take k2)) (by rfl) ((own_later (own_later HV.out bwr3) hb36).alloc _) ⟨w6.heap.size, 0, none⟩ 1 _ [.string y0, .int .i64 y1] (by rfl) rfl (cells_new w6 _ _) (by intro u hu; simp at hu; rcases hu with rfl | rfl <;> rfl) (by omega) (by unfold maxLen; omega) (by omega) (by have := hb36.size; simp; omega) (w6.heap.size + 1) (by simp) ?_
              intro g8 cap8 w8 hrow8 grow8 at8 lt8
              have hold : ∀ y, y < wp.heap.size → w8.heap[y]? = wq.heap[y]? := fun y hy => (grow8.block y (by have := hb36.size; simp; omega) (fun e => by have := (HV.out.lt y e.symm).1; omega)).trans ((heap_alloc_old _ _ (by have := hb36.size; omega)).trans ((hb36.block y (by omega)).trans (bwr3.block y (by omega))))
              have xo8 := (hold _ (by omega)).trans HBX.out.2.2
              have so8 : w8.cell? ⟨w.heap.size + 1 + 1, 4, none⟩ = some v2 := box_cell xo8 rfl
              have fo8 : w8.frozen? ⟨w.heap.size + 1 + 1, 4, none⟩ = false := box_frozen xo8
              have hn8 := (grow8.block _ (by simp; omega) NB.out).trans hnA
              have hn9 := (box_other (w := w8) (b := w.heap.size + 1 + 1) (j := 4) (.slice (some ⟨g8, 0, none⟩) (k2 + 1) cap8) (k := wq.heap.size) (by omega)).trans hn8
              simp only [Act.put, List.setIfInBounds_toArray, List.set_cons_zero, List.set_cons_succ]
              refine hK.out _ _ ⟨box_cell hn8 rfl, box_cell hn8 rfl⟩ (fun hHeld => ?_)
              clear hK
              refine wpAnyH_take (i := 10) (v := .pointer (some ⟨w.heap.size + 1 + 1, 4, none⟩)) rfl (by kernel_rfl) (by kernel_rfl) (by kernel_rfl) (fun _ _ _ h => h) (Or.inl ⟨by kernel_rfl, ?_⟩) (by assumption) ?_
              · intro w9 hSw; (try dsimp only at hSw); go_simp
              simp only [Act.put, List.setIfInBounds_toArray, List.set_cons_zero, List.set_cons_succ]
              refine wpAnyH_ready (rs := [11]) (by kernel_rfl) (by simp) ?_
              refine AllReadyH.cons rfl (fun K hK => ?_) AllReadyH.nil
              go_simp
              refine hK.out _ _ ⟨box_cell hn9 rfl, box_cell hn9 rfl⟩ (fun hHeld => ?_)
              clear hK
              refine wpAnyH_done (by kernel_rfl) ?_ _
              have bB := bW3.trans (hb36.mono bW3.size)
              have bBs := bB.size
              have hbBs := hb36.size
              have b8 : Below w.heap.size w w8 := (bB.alloc bBs _).grown grow8 (by simp; omega) (fun y h => by have := (HV.out.lt y h).1; omega)
              have b9 : Below w.heap.size w (w8.setCell ⟨w.heap.size + 1 + 1, 4, none⟩ (.slice (some ⟨g8, 0, none⟩) (k2 + 1) cap8)) := b8.setCell (by show w.heap.size ≤ w.heap.size + 1 + 1; omega) _
              have HV8 : Hid ((w8.setCell ⟨w.heap.size + 1 + 1, 4, none⟩ (.slice (some ⟨g8, 0, none⟩) (k2 + 1) cap8)).ownsRow wp.heap.size 66 2 (.slice (some ⟨g8, 0, none⟩) (k2 + 1) cap8) (k2 + 1) (cellsL (kp.take (k2 + 1)))) := by
                show World.ownsRow _ _ _ _ _ _ _
                have h1 : w8.ownsRow wp.heap.size 66 2 (.slice (some ⟨g8, 0, none⟩) (k2 + 1) cap8) (k2 + 1) (cellsL (kp.take (k2 + 1))) := by rw [HX.out, cellsL_snoc]; exact hrow8
                refine ⟨h1.1, ?_⟩
                rcases h1.2 with ⟨h2, _⟩ | ⟨g', cap', cur, hv, hg, hh, r⟩
                · simp at h2
                · exact .inr ⟨g', cap', cur, hv, hg, (box_other _ (by omega)).trans hh, r⟩
              have HG8 : Hid (Gath shNode 65 (w8.setCell ⟨w.heap.size + 1 + 1, 4, none⟩ (.slice (some ⟨g8, 0, none⟩) (k2 + 1) cap8)) (w.heap.size + 3) (.slice av k cv) k nd Cs Fs) := (HG.out.keep (fun y hy => hold y (by have := (HLN.out y hy).2; omega))).other _ _ _ (by omega)
              have HBX8 : Hid ((w8.setCell ⟨w.heap.size + 1 + 1, 4, none⟩ (.slice (some ⟨g8, 0, none⟩) (k2 + 1) cap8)).heap[w.heap.size]? = some (.cells #[.int .i64 x0, .int .i64 x1, .int .i64 x2, .slice a3 k c3, .slice (some ⟨g4, 0, none⟩) n4 c4, .slice a5 n5 c5] 32 (0, 0)) ∧ (w8.setCell ⟨w.heap.size + 1 + 1, 4, none⟩ (.slice (some ⟨g8, 0, none⟩) (k2 + 1) cap8)).heap[w.heap.size + 1]? = some (.cells #[.int .i64 0, .int .i64 0, .int .i64 0, .slice none 0 0, .slice none 0 0, .slice none 0 0] 32 (0, 0)) ∧ (w8.setCell ⟨w.heap.size + 1 + 1, 4, none⟩ (.slice (some ⟨g8, 0, none⟩) (k2 + 1) cap8)).heap[w.heap.size + 1 + 1]? = some (.cells #[.int .i64 x0, .int .i64 x1, .int .i64 x2, .slice av k cv, .slice (some ⟨g8, 0, none⟩) (k2 + 1) cap8, .slice none 0 0] 32 (0, 0))) := ⟨(box_other _ (by omega)).trans ((hold _ (by omega)).trans HBX.out.1), (box_other _ (by omega)).trans ((hold _ (by omega)).trans HBX.out.2.1), by rw [box_set _ xo8]; rfl⟩
              have hsz8 : wp.heap.size ≤ (w8.setCell ⟨w.heap.size + 1 + 1, 4, none⟩ (.slice (some ⟨g8, 0, none⟩) (k2 + 1) cap8)).heap.size := by have := grow8.size; simp at this ⊢; omega
              clear HV HG HBX hold hrow8 grow8 at8 lt8 NB xo8 so8 fo8 yo hb36 hb6 g0 g1 zo6
              go_wp2
              go_roundw
              case rel => exact ⟨k2 + 1, _, by omega, by go_num, HV8, HG8, b9, hsz8, HBX8⟩
              case measure => simp [intOf]; omega
        · have e : k2 = n4 := by omega
          subst e
          have e9 : kp.take k2 = kp := List.take_of_length_le (by have := HL.out.2.1; omega)
          have HVa : Hid (wq.ownsRow wp.heap.size 66 2 v2 k2 (cellsL kp)) := by have h := HV.out; rw [e9] at h; exact h
          clear HV e9
          obtain ⟨FK0, oK0, ndK0, atK0, av1, cv1, rfl⟩ := own_linksW HL.out.2.1 HL.out.2.2.2.1 HVa.out
          have HK : Hid (Own (.sl shLink) wq wp.heap.size [.slice av1 k2 cv1] kp FK0 ∧ FK0.Nodup ∧ ∀ y ∈ FK0, wp.heap.size ≤ y ∧ y < wq.heap.size) := ⟨oK0, ndK0, oK0.lt⟩
          have q5 : wq.cell? ⟨w.heap.size, 5, none⟩ = some (.slice a5 n5 c5) := box_cell HBX.out.1 rfl
          clear oK0 ndK0 atK0 HVa hlt hk
          go_wp2
          clear q5
          go_loopw [61] (fun i wz => ∃ (k3 : Nat) (v3 : Value), k3 ≤ n5 ∧ i = .int .i64 k3 ∧ Hid (wz.ownsRow wq.heap.size 70 4 v3 k3 (cellsT (tn.take k3))) ∧ Hid (Gath shNode 65 wz (w.heap.size + 3) (.slice av k cv) k nd Cs Fs) ∧ Hid (Own (.sl shLink) wz wp.heap.size [.slice av1 k2 cv1] kp FK0) ∧ Below w.heap.size w wz ∧ wq.heap.size ≤ wz.heap.size ∧
              Hid (wz.heap[w.heap.size]? = some (.cells #[.int .i64 x0, .int .i64 x1, .int .i64 x2, .slice a3 k c3, .slice a4 k2 c4, .slice a5 n5 c5] 32 (0, 0)) ∧ wz.heap[w.heap.size + 1]? = some (.cells #[.int .i64 0, .int .i64 0, .int .i64 0, .slice none 0 0, .slice none 0 0, .slice none 0 0] 32 (0, 0)) ∧ wz.heap[w.heap.size + 1 + 1]? = some (.cells #[.int .i64 x0, .int .i64 x1, .int .i64 x2, .slice av k cv, .slice av1 k2 cv1, v3] 32 (0, 0)))) (fun i _ => n5 - (intOf i).toNat)
          case atStart => exact ⟨0, .slice none 0 0, Nat.zero_le _, rfl, ⟨by simp [cellsT], .inl ⟨rfl, rfl⟩⟩, HG, HK.out.1, hbel, Nat.le_refl _, HBX⟩
          case round =>
            clear HG HBX hbel
            obtain ⟨k3, v3, hk, rfl, HV, HG, HKz, hbel, hszz, HBX⟩ := hrel
            obtain ⟨wz, rfl⟩ : ∃ x, x = wr := ⟨wr, rfl⟩
            have hbs3 := hbel.size
            by_cases hlt : k3 < n5
            · obtain ⟨g5, cc, x, fx, ha5, hg5, hx, hox, _, hcell⟩ := own_get HR.out.2.2 k3 hlt
              subst ha5
              obtain ⟨hkd, hxe⟩ := at_some' hx
              have hsx := turn_sz hx
              obtain ⟨rfl, _, _⟩ := open_Turn hox.reads
              obtain ⟨y0, ey0⟩ : ∃ y : Int, y = x.1 := ⟨_, rfl⟩
              obtain ⟨y1, ey1⟩ : ∃ y : ByteArray, y = x.2.1 := ⟨_, rfl⟩
              obtain ⟨y2, ey2⟩ : ∃ y : ByteArray, y = x.2.2.1 := ⟨_, rfl⟩
              obtain ⟨y3, ey3⟩ : ∃ y : Int, y = x.2.2.2.1 := ⟨_, rfl⟩
              have hy1s : y1.size ≤ 1048576 := by rw [ey1]; have := HSN.out.2.2; omega
              have hy2s : y2.size ≤ 1048576 := by rw [ey2]; have := HSN.out.2.2; omega
              have QS : Hid (∀ w', Calls Try.prog 76 #[.string y1] w' fun e w'' => e = .returned (.string y1) ∧ Below w'.heap.size w' w'') := fun w' => cloneS_any y1 w' hy1s
              have QT : Hid (∀ w', Calls Try.prog 76 #[.string y2] w' fun e w'' => e = .returned (.string y2) ∧ Below w'.heap.size w' w'') := fun w' => cloneS_any y2 w' hy2s
              have g0 : wz.cell? ⟨g5, k3 * 4, none⟩ = some (.int .i64 y0) := by rw [ey0]; exact (hbel.cell (p := ⟨g5, k3 * 4 + 0, none⟩) hg5).trans (hcell 0 (by decide))
              have g1 : wz.cell? ⟨g5, k3 * 4 + 1, none⟩ = some (.string y1) := by rw [ey1]; exact (hbel.cell (p := ⟨g5, k3 * 4 + 1, none⟩) hg5).trans (hcell 1 (by decide))
              have g2 : wz.cell? ⟨g5, k3 * 4 + 2, none⟩ = some (.string y2) := by rw [ey2]; exact (hbel.cell (p := ⟨g5, k3 * 4 + 2, none⟩) hg5).trans (hcell 2 (by decide))
              have g3 : wz.cell? ⟨g5, k3 * 4 + 3, none⟩ = some (.int .i64 y3) := by rw [ey3]; exact (hbel.cell (p := ⟨g5, k3 * 4 + 3, none⟩) hg5).trans (hcell 3 (by decide))
              have HX : Hid (tn.take (k3 + 1) = tn.take k3 ++ [(y0, y1, y2, y3, ())]) := take_snocTk tn k3 hkd _ (by rw [ey0, ey1, ey2, ey3]; exact hxe)
              have hkn : (k3 : Int) < (n5 : Int) := by omega
              obtain ⟨W3, hW3⟩ : ∃ W, W = wz.alloc (.cells #[.int .i64 y0, .string y1, .string y2, .int .i64 y3] 70) := ⟨_, rfl⟩
              have bwr3 : Below wz.heap.size wz W3 := by rw [hW3]; exact (Below.refl _ _).alloc (Nat.le_refl _) _
              have zW3 : wz.heap.size < W3.heap.size := by rw [hW3]; simp
              have bW3 : Below w.heap.size w W3 := hbel.trans (bwr3.mono hbs3)
              have hb3 : Below W3.heap.size W3 W3 := Below.refl _ _
              have hbn : W3.heap[wz.heap.size]? = some (.cells #[.int .i64 y0, .string y1, .string y2, .int .i64 y3] 70 (0, 0)) := by rw [hW3]; exact heap_alloc_new wz _
              have HB3 : Hid (W3.heap[w.heap.size]? = some (.cells #[.int .i64 x0, .int .i64 x1, .int .i64 x2, .slice a3 k c3, .slice a4 k2 c4, .slice (some ⟨g5, 0, none⟩) n5 c5] 32 (0, 0)) ∧ W3.heap[w.heap.size + 1]? = some (.cells #[.int .i64 0, .int .i64 0, .int .i64 0, .slice none 0 0, .slice none 0 0, .slice none 0 0] 32 (0, 0)) ∧ W3.heap[w.heap.size + 1 + 1]? = some (.cells #[.int .i64 x0, .int .i64 x1, .int .i64 x2, .slice av k cv, .slice av1 k2 cv1, v3] 32 (0, 0))) := ⟨(bwr3.block _ (by omega)).trans HBX.out.1, (bwr3.block _ (by omega)).trans HBX.out.2.1, (bwr3.block _ (by omega)).trans HBX.out.2.2⟩
              have yo : W3.cell? ⟨w.heap.size + 1 + 1, 5, none⟩ = some v3 := box_cell HB3.out.2.2 rfl
              have HW3 : Hid (W3 = wz.alloc (.cells #[.int .i64 y0, .string y1, .string y2, .int .i64 y3] 70)) := hW3
              have NB : Hid (some wz.heap.size ≠ v3.ownBlock) := fun h => by have := (HV.out.lt _ h.symm).2; omega
              clear hcell hox hx hxe ey0 ey1 ey2 ey3 hW3 hsx hy1s hy2s
              go_wp2_with fail
              rw [← HW3.out]
              refine wp_region_held_drew (S := fun w' => w'.cell? ⟨wz.heap.size, 0, none⟩ = some (.int .i64 y0) ∧ w'.cell? ⟨wz.heap.size, 1, none⟩ = some (.string y1) ∧ w'.cell? ⟨wz.heap.size, 2, none⟩ = some (.string y2) ∧ w'.cell? ⟨wz.heap.size, 3, none⟩ = some (.int .i64 y3)) (by kernel_rfl) ⟨box_cell hbn rfl, box_cell hbn rfl, box_cell hbn rfl, box_cell hbn rfl⟩ (fun hHeld => ?_)
              refine wpAnyH_take (i := 0) (v := .pointer (some ⟨w.heap.size + 1 + 1, 5, none⟩)) rfl (by kernel_rfl) (by kernel_rfl) (by kernel_rfl) (fun _ _ _ h => h) (Or.inl ⟨by kernel_rfl, ?_⟩) (by assumption) ?_
              · intro w9 hSw; (try dsimp only at hSw); go_simp
              simp only [Act.put, List.setIfInBounds_toArray, List.set_cons_zero, List.set_cons_succ]
              refine wpAnyH_take (i := 2) (v := .pointer (some ⟨wz.heap.size, 0, none⟩)) rfl (by kernel_rfl) (by kernel_rfl) (by kernel_rfl) (fun _ _ _ h => h) (Or.inl ⟨by kernel_rfl, ?_⟩) (by assumption) ?_
              · intro w9 hSw; (try dsimp only at hSw); go_simp
              simp only [Act.put, List.setIfInBounds_toArray, List.set_cons_zero, List.set_cons_succ]
              refine wpAnyH_take (i := 3) (v := .int .i64 y0) rfl (by kernel_rfl) (by kernel_rfl) (by kernel_rfl) (fun _ _ _ h => h) (Or.inl ⟨by kernel_rfl, ?_⟩) (by assumption) ?_
              · intro w9 hSw; (try dsimp only at hSw); go_simp
              simp only [Act.put, List.setIfInBounds_toArray, List.set_cons_zero, List.set_cons_succ]
              refine wpAnyH_take (i := 4) (v := .pointer (some ⟨wz.heap.size, 1, none⟩)) rfl (by kernel_rfl) (by kernel_rfl) (by kernel_rfl) (fun _ _ _ h => h) (Or.inl ⟨by kernel_rfl, ?_⟩) (by assumption) ?_
              · intro w9 hSw; (try dsimp only at hSw); go_simp
              simp only [Act.put, List.setIfInBounds_toArray, List.set_cons_zero, List.set_cons_succ]
              refine wpAnyH_take (i := 5) (v := .string y1) rfl (by kernel_rfl) (by kernel_rfl) (by kernel_rfl) (fun _ _ _ h => h) (Or.inl ⟨by kernel_rfl, ?_⟩) (by assumption) ?_
              · intro w9 hSw; (try dsimp only at hSw); go_simp
              simp only [Act.put, List.setIfInBounds_toArray, List.set_cons_zero, List.set_cons_succ]
              refine wpAnyH_take (i := 7) (v := .pointer (some ⟨wz.heap.size, 2, none⟩)) rfl (by kernel_rfl) (by kernel_rfl) (by kernel_rfl) (fun _ _ _ h => h) (Or.inl ⟨by kernel_rfl, ?_⟩) (by assumption) ?_
              · intro w9 hSw; (try dsimp only at hSw); go_simp
              simp only [Act.put, List.setIfInBounds_toArray, List.set_cons_zero, List.set_cons_succ]
              refine wpAnyH_take (i := 8) (v := .string y2) rfl (by kernel_rfl) (by kernel_rfl) (by kernel_rfl) (fun _ _ _ h => h) (Or.inl ⟨by kernel_rfl, ?_⟩) (by assumption) ?_
              · intro w9 hSw; (try dsimp only at hSw); go_simp
              simp only [Act.put, List.setIfInBounds_toArray, List.set_cons_zero, List.set_cons_succ]
              refine wpAnyH_take (i := 10) (v := .pointer (some ⟨wz.heap.size, 3, none⟩)) rfl (by kernel_rfl) (by kernel_rfl) (by kernel_rfl) (fun _ _ _ h => h) (Or.inl ⟨by kernel_rfl, ?_⟩) (by assumption) ?_
              · intro w9 hSw; (try dsimp only at hSw); go_simp
              simp only [Act.put, List.setIfInBounds_toArray, List.set_cons_zero, List.set_cons_succ]
              refine wpAnyH_take (i := 11) (v := .int .i64 y3) rfl (by kernel_rfl) (by kernel_rfl) (by kernel_rfl) (fun _ _ _ h => h) (Or.inl ⟨by kernel_rfl, ?_⟩) (by assumption) ?_
              · intro w9 hSw; (try dsimp only at hSw); go_simp
              simp only [Act.put, List.setIfInBounds_toArray, List.set_cons_zero, List.set_cons_succ]
              refine wpAnyH_ready (rs := [1, 6]) (by kernel_rfl) (by simp) ?_
              refine AllReadyH.cons rfl (fun K hK => ?_) (AllReadyH.cons rfl (fun K hK => ?_) AllReadyH.nil)
              · go_simp
                refine hK.out _ _ ⟨box_cell hbn rfl, box_cell hbn rfl, box_cell hbn rfl, box_cell hbn rfl⟩ (fun hHeld => ?_)
                clear hK
                refine wpAnyH_ready (rs := [6]) (by kernel_rfl) (by simp) ?_
                refine AllReadyH.cons rfl (fun K hK => ?_) AllReadyH.nil
                go_simp
                refine (QS.out _).mono ?_
                rintro e w6 ⟨rfl, hb6⟩
                have hb36 : Below W3.heap.size W3 w6 := hb3.drew.trans (hb6.mono (by simp))
                have zo6 : w6.cell? ⟨w.heap.size + 1 + 1, 5, none⟩ = some v3 := (hb36.cell (p := ⟨w.heap.size + 1 + 1, 5, none⟩) (by simp; omega)).trans yo
                have zl6 : w.heap.size + 1 + 1 < w6.heap.size := by have := hb36.size; omega
                have zl6' : wz.heap.size < w6.heap.size := by have := hb36.size; omega
                have hn6 := (hb36.block _ zW3).trans hbn
                go_wp2_with fail
                refine hK.out _ _ ⟨box_cell hn6 rfl, box_cell hn6 rfl, box_cell hn6 rfl, box_cell hn6 rfl⟩ (fun hHeld => ?_)
                clear hK
                refine wpAnyH_ready (rs := [9]) (by kernel_rfl) (by simp) ?_
                refine AllReadyH.cons rfl (fun K hK => ?_) AllReadyH.nil
                go_simp
                refine (QT.out _).mono ?_
                rintro e w7 ⟨rfl, hb7⟩
                have hb37 : Below W3.heap.size W3 w7 := hb36.trans (hb7.mono hb36.size)
                have zo7 : w7.cell? ⟨w.heap.size + 1 + 1, 5, none⟩ = some v3 := (hb37.cell (p := ⟨w.heap.size + 1 + 1, 5, none⟩) (by simp; omega)).trans yo
                have zl7 : w.heap.size + 1 + 1 < w7.heap.size := by have := hb37.size; omega
                have zl7' : wz.heap.size < w7.heap.size := by have := hb37.size; omega
                have hn7 := (hb37.block _ zW3).trans hbn
                go_wp2_with fail
                refine hK.out _ _ ⟨box_cell hn7 rfl, box_cell hn7 rfl, box_cell hn7 rfl, box_cell hn7 rfl⟩ (fun hHeld => ?_)
                clear hK
                refine wpAnyH_take (i := 12) (v := .agg #[.int .i64 y0, .string y1, .string y2, .int .i64 y3]) rfl (by kernel_rfl) (by kernel_rfl) (by kernel_rfl) (fun _ _ _ h => h) (Or.inl ⟨by kernel_rfl, ?_⟩) (by assumption) ?_
                · intro w9 hSw; (try dsimp only at hSw); go_simp
                simp only [Act.put, List.setIfInBounds_toArray, List.set_cons_zero, List.set_cons_succ]
                refine wpAnyH_ready (rs := [13]) (by kernel_rfl) (by simp) ?_
                refine AllReadyH.cons rfl (fun K hK => ?_) AllReadyH.nil
                go_simp
                have hnA := (heap_alloc_old w7 (.cells #[.int .i64 y0, .string y1, .string y2, .int .i64 y3] 70) zl7').trans hn7
                refine hK.out _ _ ⟨box_cell hnA rfl, box_cell hnA rfl, box_cell hnA rfl, box_cell hnA rfl⟩ (fun hHeld => ?_)
                clear hK
                refine wpAnyH_ready (rs := [14]) (by kernel_rfl) (by simp) ?_
                refine AllReadyH.cons rfl (fun K hK => ?_) AllReadyH.nil
                refine step_append_lies _ (by rfl) _ _ 30 (by rfl) wq.heap.size 70 t0 (.agg #[.int .i64 0, .string ByteArray.empty, .string ByteArray.empty, .int .i64 0]) 4 48 Try.underlying30 ht hx0 hx1 hx2 rfl (by decide) v3 k3 (cellsT (tn.take k3)) (by rfl) ((own_later (own_later HV.out bwr3) hb37).alloc _) ⟨w7.heap.size, 0, none⟩ 1 _ [.int .i64 y0, .string y1, .string y2, .int .i64 y3] (by rfl) rfl (cells_new w7 _ _) (by intro u hu; simp at hu; rcases hu with rfl | rfl | rfl | rfl <;> rfl) (by omega) (by unfold maxLen; omega) (by omega) (by have := hb37.size; simp; omega) (w7.heap.size + 1) (by simp) ?_
                intro g8 cap8 w8 hrow8 grow8 at8 lt8
                have hold : ∀ y, y < wq.heap.size → w8.heap[y]? = wz.heap[y]? := fun y hy => (grow8.block y (by have := hb37.size; simp; omega) (fun e => by have := (HV.out.lt y e.symm).1; omega)).trans ((heap_alloc_old _ _ (by have := hb37.size; omega)).trans ((hb37.block y (by omega)).trans (bwr3.block y (by omega))))
                have xo8 := (hold _ (by omega)).trans HBX.out.2.2
                have so8 : w8.cell? ⟨w.heap.size + 1 + 1, 5, none⟩ = some v3 := box_cell xo8 rfl
                have fo8 : w8.frozen? ⟨w.heap.size + 1 + 1, 5, none⟩ = false := box_frozen xo8
                have hn8 := (grow8.block _ (by simp; omega) NB.out).trans hnA
                have hn9 := (box_other (w := w8) (b := w.heap.size + 1 + 1) (j := 5) (.slice (some ⟨g8, 0, none⟩) (k3 + 1) cap8) (k := wz.heap.size) (by omega)).trans hn8
                simp only [Act.put, List.setIfInBounds_toArray, List.set_cons_zero, List.set_cons_succ]
                refine hK.out _ _ ⟨box_cell hn8 rfl, box_cell hn8 rfl, box_cell hn8 rfl, box_cell hn8 rfl⟩ (fun hHeld => ?_)
                clear hK
                refine wpAnyH_take (i := 15) (v := .pointer (some ⟨w.heap.size + 1 + 1, 5, none⟩)) rfl (by kernel_rfl) (by kernel_rfl) (by kernel_rfl) (fun _ _ _ h => h) (Or.inl ⟨by kernel_rfl, ?_⟩) (by assumption) ?_
                · intro w9 hSw; (try dsimp only at hSw); go_simp
                simp only [Act.put, List.setIfInBounds_toArray, List.set_cons_zero, List.set_cons_succ]
                refine wpAnyH_ready (rs := [16]) (by kernel_rfl) (by simp) ?_
                refine AllReadyH.cons rfl (fun K hK => ?_) AllReadyH.nil
                go_simp
                refine hK.out _ _ ⟨box_cell hn9 rfl, box_cell hn9 rfl, box_cell hn9 rfl, box_cell hn9 rfl⟩ (fun hHeld => ?_)
                clear hK
                refine wpAnyH_done (by kernel_rfl) ?_ _
                have bB := bW3.trans (hb37.mono bW3.size)
                have bBs := bB.size
                have hbBs := hb37.size
                have b8 : Below w.heap.size w w8 := (bB.alloc bBs _).grown grow8 (by simp; omega) (fun y h => by have := (HV.out.lt y h).1; omega)
                have b9 : Below w.heap.size w (w8.setCell ⟨w.heap.size + 1 + 1, 5, none⟩ (.slice (some ⟨g8, 0, none⟩) (k3 + 1) cap8)) := b8.setCell (by show w.heap.size ≤ w.heap.size + 1 + 1; omega) _
                have HV8 : Hid ((w8.setCell ⟨w.heap.size + 1 + 1, 5, none⟩ (.slice (some ⟨g8, 0, none⟩) (k3 + 1) cap8)).ownsRow wq.heap.size 70 4 (.slice (some ⟨g8, 0, none⟩) (k3 + 1) cap8) (k3 + 1) (cellsT (tn.take (k3 + 1)))) := by
                  show World.ownsRow _ _ _ _ _ _ _
                  have h1 : w8.ownsRow wq.heap.size 70 4 (.slice (some ⟨g8, 0, none⟩) (k3 + 1) cap8) (k3 + 1) (cellsT (tn.take (k3 + 1))) := by rw [HX.out, cellsT_snoc]; exact hrow8
                  refine ⟨h1.1, ?_⟩
                  rcases h1.2 with ⟨h2, _⟩ | ⟨g', cap', cur, hv, hg, hh, r⟩
                  · simp at h2
                  · exact .inr ⟨g', cap', cur, hv, hg, (box_other _ (by omega)).trans hh, r⟩
                have HG8 : Hid (Gath shNode 65 (w8.setCell ⟨w.heap.size + 1 + 1, 5, none⟩ (.slice (some ⟨g8, 0, none⟩) (k3 + 1) cap8)) (w.heap.size + 3) (.slice av k cv) k nd Cs Fs) := (HG.out.keep (fun y hy => hold y (by have := (HLN.out y hy).2; omega))).other _ _ _ (by omega)
                have HK8 : Hid (Own (.sl shLink) (w8.setCell ⟨w.heap.size + 1 + 1, 5, none⟩ (.slice (some ⟨g8, 0, none⟩) (k3 + 1) cap8)) wp.heap.size [.slice av1 k2 cv1] kp FK0) := HKz.out.keep fun y hy => (box_other _ (by have := (HK.out.2.2 y hy).1; omega)).trans (hold y (by have := (HK.out.2.2 y hy).2; omega))
                have HBX8 : Hid ((w8.setCell ⟨w.heap.size + 1 + 1, 5, none⟩ (.slice (some ⟨g8, 0, none⟩) (k3 + 1) cap8)).heap[w.heap.size]? = some (.cells #[.int .i64 x0, .int .i64 x1, .int .i64 x2, .slice a3 k c3, .slice a4 k2 c4, .slice (some ⟨g5, 0, none⟩) n5 c5] 32 (0, 0)) ∧ (w8.setCell ⟨w.heap.size + 1 + 1, 5, none⟩ (.slice (some ⟨g8, 0, none⟩) (k3 + 1) cap8)).heap[w.heap.size + 1]? = some (.cells #[.int .i64 0, .int .i64 0, .int .i64 0, .slice none 0 0, .slice none 0 0, .slice none 0 0] 32 (0, 0)) ∧ (w8.setCell ⟨w.heap.size + 1 + 1, 5, none⟩ (.slice (some ⟨g8, 0, none⟩) (k3 + 1) cap8)).heap[w.heap.size + 1 + 1]? = some (.cells #[.int .i64 x0, .int .i64 x1, .int .i64 x2, .slice av k cv, .slice av1 k2 cv1, .slice (some ⟨g8, 0, none⟩) (k3 + 1) cap8] 32 (0, 0))) := ⟨(box_other _ (by omega)).trans ((hold _ (by omega)).trans HBX.out.1), (box_other _ (by omega)).trans ((hold _ (by omega)).trans HBX.out.2.1), by rw [box_set _ xo8]; rfl⟩
                have hsz8 : wq.heap.size ≤ (w8.setCell ⟨w.heap.size + 1 + 1, 5, none⟩ (.slice (some ⟨g8, 0, none⟩) (k3 + 1) cap8)).heap.size := by have := grow8.size; simp at this ⊢; omega
                clear HV HG HBX hold hrow8 grow8 at8 lt8 NB xo8 so8 fo8 yo hb36 hb37 hb6 hb7 g0 g1 g2 g3 zo6 zo7
                go_wp2
                go_roundw
                case rel => exact ⟨k3 + 1, _, by omega, by go_num, HV8, HG8, HK8, b9, hsz8, HBX8⟩
                case measure => simp [intOf]; omega
              · go_simp
                refine (QS.out _).mono ?_
                rintro e w6 ⟨rfl, hb6⟩
                have hb36 : Below W3.heap.size W3 w6 := hb3.drew.trans (hb6.mono (by simp))
                have zo6 : w6.cell? ⟨w.heap.size + 1 + 1, 5, none⟩ = some v3 := (hb36.cell (p := ⟨w.heap.size + 1 + 1, 5, none⟩) (by simp; omega)).trans yo
                have zl6 : w.heap.size + 1 + 1 < w6.heap.size := by have := hb36.size; omega
                have zl6' : wz.heap.size < w6.heap.size := by have := hb36.size; omega
                have hn6 := (hb36.block _ zW3).trans hbn
                go_wp2_with fail
                refine hK.out _ _ ⟨box_cell hn6 rfl, box_cell hn6 rfl, box_cell hn6 rfl, box_cell hn6 rfl⟩ (fun hHeld => ?_)
                clear hK
                refine wpAnyH_ready (rs := [1, 9]) (by kernel_rfl) (by simp) ?_
                refine AllReadyH.cons rfl (fun K hK => ?_) (AllReadyH.cons rfl (fun K hK => ?_) AllReadyH.nil)
                · go_simp
                  refine hK.out _ _ ⟨box_cell hn6 rfl, box_cell hn6 rfl, box_cell hn6 rfl, box_cell hn6 rfl⟩ (fun hHeld => ?_)
                  clear hK
                  refine wpAnyH_ready (rs := [9]) (by kernel_rfl) (by simp) ?_
                  refine AllReadyH.cons rfl (fun K hK => ?_) AllReadyH.nil
                  go_simp
                  refine (QT.out _).mono ?_
                  rintro e w7 ⟨rfl, hb7⟩
                  have hb37 : Below W3.heap.size W3 w7 := hb36.trans (hb7.mono hb36.size)
                  have zo7 : w7.cell? ⟨w.heap.size + 1 + 1, 5, none⟩ = some v3 := (hb37.cell (p := ⟨w.heap.size + 1 + 1, 5, none⟩) (by simp; omega)).trans yo
                  have zl7 : w.heap.size + 1 + 1 < w7.heap.size := by have := hb37.size; omega
                  have zl7' : wz.heap.size < w7.heap.size := by have := hb37.size; omega
                  have hn7 := (hb37.block _ zW3).trans hbn
                  go_wp2_with fail
                  refine hK.out _ _ ⟨box_cell hn7 rfl, box_cell hn7 rfl, box_cell hn7 rfl, box_cell hn7 rfl⟩ (fun hHeld => ?_)
                  clear hK
                  refine wpAnyH_take (i := 12) (v := .agg #[.int .i64 y0, .string y1, .string y2, .int .i64 y3]) rfl (by kernel_rfl) (by kernel_rfl) (by kernel_rfl) (fun _ _ _ h => h) (Or.inl ⟨by kernel_rfl, ?_⟩) (by assumption) ?_
                  · intro w9 hSw; (try dsimp only at hSw); go_simp
                  simp only [Act.put, List.setIfInBounds_toArray, List.set_cons_zero, List.set_cons_succ]
                  refine wpAnyH_ready (rs := [13]) (by kernel_rfl) (by simp) ?_
                  refine AllReadyH.cons rfl (fun K hK => ?_) AllReadyH.nil
                  go_simp
                  have hnA := (heap_alloc_old w7 (.cells #[.int .i64 y0, .string y1, .string y2, .int .i64 y3] 70) zl7').trans hn7
                  refine hK.out _ _ ⟨box_cell hnA rfl, box_cell hnA rfl, box_cell hnA rfl, box_cell hnA rfl⟩ (fun hHeld => ?_)
                  clear hK
                  refine wpAnyH_ready (rs := [14]) (by kernel_rfl) (by simp) ?_
                  refine AllReadyH.cons rfl (fun K hK => ?_) AllReadyH.nil
                  refine step_append_lies _ (by rfl) _ _ 30 (by rfl) wq.heap.size 70 t0 (.agg #[.int .i64 0, .string ByteArray.empty, .string ByteArray.empty, .int .i64 0]) 4 48 Try.underlying30 ht hx0 hx1 hx2 rfl (by decide) v3 k3 (cellsT (tn.take k3)) (by rfl) ((own_later (own_later HV.out bwr3) hb37).alloc _) ⟨w7.heap.size, 0, none⟩ 1 _ [.int .i64 y0, .string y1, .string y2, .int .i64 y3] (by rfl) rfl (cells_new w7 _ _) (by intro u hu; simp at hu; rcases hu with rfl | rfl | rfl | rfl <;> rfl) (by omega) (by unfold maxLen; omega) (by omega) (by have := hb37.size; simp; omega) (w7.heap.size + 1) (by simp) ?_
                  intro g8 cap8 w8 hrow8 grow8 at8 lt8
                  have hold : ∀ y, y < wq.heap.size → w8.heap[y]? = wz.heap[y]? := fun y hy => (grow8.block y (by have := hb37.size; simp; omega) (fun e => by have := (HV.out.lt y e.symm).1; omega)).trans ((heap_alloc_old _ _ (by have := hb37.size; omega)).trans ((hb37.block y (by omega)).trans (bwr3.block y (by omega))))
                  have xo8 := (hold _ (by omega)).trans HBX.out.2.2
                  have so8 : w8.cell? ⟨w.heap.size + 1 + 1, 5, none⟩ = some v3 := box_cell xo8 rfl
                  have fo8 : w8.frozen? ⟨w.heap.size + 1 + 1, 5, none⟩ = false := box_frozen xo8
                  have hn8 := (grow8.block _ (by simp; omega) NB.out).trans hnA
                  have hn9 := (box_other (w := w8) (b := w.heap.size + 1 + 1) (j := 5) (.slice (some ⟨g8, 0, none⟩) (k3 + 1) cap8) (k := wz.heap.size) (by omega)).trans hn8
                  simp only [Act.put, List.setIfInBounds_toArray, List.set_cons_zero, List.set_cons_succ]
                  refine hK.out _ _ ⟨box_cell hn8 rfl, box_cell hn8 rfl, box_cell hn8 rfl, box_cell hn8 rfl⟩ (fun hHeld => ?_)
                  clear hK
                  refine wpAnyH_take (i := 15) (v := .pointer (some ⟨w.heap.size + 1 + 1, 5, none⟩)) rfl (by kernel_rfl) (by kernel_rfl) (by kernel_rfl) (fun _ _ _ h => h) (Or.inl ⟨by kernel_rfl, ?_⟩) (by assumption) ?_
                  · intro w9 hSw; (try dsimp only at hSw); go_simp
                  simp only [Act.put, List.setIfInBounds_toArray, List.set_cons_zero, List.set_cons_succ]
                  refine wpAnyH_ready (rs := [16]) (by kernel_rfl) (by simp) ?_
                  refine AllReadyH.cons rfl (fun K hK => ?_) AllReadyH.nil
                  go_simp
                  refine hK.out _ _ ⟨box_cell hn9 rfl, box_cell hn9 rfl, box_cell hn9 rfl, box_cell hn9 rfl⟩ (fun hHeld => ?_)
                  clear hK
                  refine wpAnyH_done (by kernel_rfl) ?_ _
                  have bB := bW3.trans (hb37.mono bW3.size)
                  have bBs := bB.size
                  have hbBs := hb37.size
                  have b8 : Below w.heap.size w w8 := (bB.alloc bBs _).grown grow8 (by simp; omega) (fun y h => by have := (HV.out.lt y h).1; omega)
                  have b9 : Below w.heap.size w (w8.setCell ⟨w.heap.size + 1 + 1, 5, none⟩ (.slice (some ⟨g8, 0, none⟩) (k3 + 1) cap8)) := b8.setCell (by show w.heap.size ≤ w.heap.size + 1 + 1; omega) _
                  have HV8 : Hid ((w8.setCell ⟨w.heap.size + 1 + 1, 5, none⟩ (.slice (some ⟨g8, 0, none⟩) (k3 + 1) cap8)).ownsRow wq.heap.size 70 4 (.slice (some ⟨g8, 0, none⟩) (k3 + 1) cap8) (k3 + 1) (cellsT (tn.take (k3 + 1)))) := by
                    show World.ownsRow _ _ _ _ _ _ _
                    have h1 : w8.ownsRow wq.heap.size 70 4 (.slice (some ⟨g8, 0, none⟩) (k3 + 1) cap8) (k3 + 1) (cellsT (tn.take (k3 + 1))) := by rw [HX.out, cellsT_snoc]; exact hrow8
                    refine ⟨h1.1, ?_⟩
                    rcases h1.2 with ⟨h2, _⟩ | ⟨g', cap', cur, hv, hg, hh, r⟩
                    · simp at h2
                    · exact .inr ⟨g', cap', cur, hv, hg, (box_other _ (by omega)).trans hh, r⟩
                  have HG8 : Hid (Gath shNode 65 (w8.setCell ⟨w.heap.size + 1 + 1, 5, none⟩ (.slice (some ⟨g8, 0, none⟩) (k3 + 1) cap8)) (w.heap.size + 3) (.slice av k cv) k nd Cs Fs) := (HG.out.keep (fun y hy => hold y (by have := (HLN.out y hy).2; omega))).other _ _ _ (by omega)
                  have HK8 : Hid (Own (.sl shLink) (w8.setCell ⟨w.heap.size + 1 + 1, 5, none⟩ (.slice (some ⟨g8, 0, none⟩) (k3 + 1) cap8)) wp.heap.size [.slice av1 k2 cv1] kp FK0) := HKz.out.keep fun y hy => (box_other _ (by have := (HK.out.2.2 y hy).1; omega)).trans (hold y (by have := (HK.out.2.2 y hy).2; omega))
                  have HBX8 : Hid ((w8.setCell ⟨w.heap.size + 1 + 1, 5, none⟩ (.slice (some ⟨g8, 0, none⟩) (k3 + 1) cap8)).heap[w.heap.size]? = some (.cells #[.int .i64 x0, .int .i64 x1, .int .i64 x2, .slice a3 k c3, .slice a4 k2 c4, .slice (some ⟨g5, 0, none⟩) n5 c5] 32 (0, 0)) ∧ (w8.setCell ⟨w.heap.size + 1 + 1, 5, none⟩ (.slice (some ⟨g8, 0, none⟩) (k3 + 1) cap8)).heap[w.heap.size + 1]? = some (.cells #[.int .i64 0, .int .i64 0, .int .i64 0, .slice none 0 0, .slice none 0 0, .slice none 0 0] 32 (0, 0)) ∧ (w8.setCell ⟨w.heap.size + 1 + 1, 5, none⟩ (.slice (some ⟨g8, 0, none⟩) (k3 + 1) cap8)).heap[w.heap.size + 1 + 1]? = some (.cells #[.int .i64 x0, .int .i64 x1, .int .i64 x2, .slice av k cv, .slice av1 k2 cv1, .slice (some ⟨g8, 0, none⟩) (k3 + 1) cap8] 32 (0, 0))) := ⟨(box_other _ (by omega)).trans ((hold _ (by omega)).trans HBX.out.1), (box_other _ (by omega)).trans ((hold _ (by omega)).trans HBX.out.2.1), by rw [box_set _ xo8]; rfl⟩
                  have hsz8 : wq.heap.size ≤ (w8.setCell ⟨w.heap.size + 1 + 1, 5, none⟩ (.slice (some ⟨g8, 0, none⟩) (k3 + 1) cap8)).heap.size := by have := grow8.size; simp at this ⊢; omega
                  clear HV HG HBX hold hrow8 grow8 at8 lt8 NB xo8 so8 fo8 yo hb36 hb37 hb6 hb7 g0 g1 g2 g3 zo6 zo7
                  go_wp2
                  go_roundw
                  case rel => exact ⟨k3 + 1, _, by omega, by go_num, HV8, HG8, HK8, b9, hsz8, HBX8⟩
                  case measure => simp [intOf]; omega
                · go_simp
                  refine (QT.out _).mono ?_
                  rintro e w7 ⟨rfl, hb7⟩
                  have hb37 : Below W3.heap.size W3 w7 := hb36.trans (hb7.mono hb36.size)
                  have zo7 : w7.cell? ⟨w.heap.size + 1 + 1, 5, none⟩ = some v3 := (hb37.cell (p := ⟨w.heap.size + 1 + 1, 5, none⟩) (by simp; omega)).trans yo
                  have zl7 : w.heap.size + 1 + 1 < w7.heap.size := by have := hb37.size; omega
                  have zl7' : wz.heap.size < w7.heap.size := by have := hb37.size; omega
                  have hn7 := (hb37.block _ zW3).trans hbn
                  go_wp2_with fail
                  refine hK.out _ _ ⟨box_cell hn7 rfl, box_cell hn7 rfl, box_cell hn7 rfl, box_cell hn7 rfl⟩ (fun hHeld => ?_)
                  clear hK
                  refine wpAnyH_take (i := 12) (v := .agg #[.int .i64 y0, .string y1, .string y2, .int .i64 y3]) rfl (by kernel_rfl) (by kernel_rfl) (by kernel_rfl) (fun _ _ _ h => h) (Or.inl ⟨by kernel_rfl, ?_⟩) (by assumption) ?_
                  · intro w9 hSw; (try dsimp only at hSw); go_simp
                  simp only [Act.put, List.setIfInBounds_toArray, List.set_cons_zero, List.set_cons_succ]
                  refine wpAnyH_ready (rs := [1, 13]) (by kernel_rfl) (by simp) ?_
                  refine AllReadyH.cons rfl (fun K hK => ?_) (AllReadyH.cons rfl (fun K hK => ?_) AllReadyH.nil)
                  · go_simp
                    refine hK.out _ _ ⟨box_cell hn7 rfl, box_cell hn7 rfl, box_cell hn7 rfl, box_cell hn7 rfl⟩ (fun hHeld => ?_)
                    clear hK
                    refine wpAnyH_ready (rs := [13]) (by kernel_rfl) (by simp) ?_
                    refine AllReadyH.cons rfl (fun K hK => ?_) AllReadyH.nil
                    go_simp
                    have hnA := (heap_alloc_old w7 (.cells #[.int .i64 y0, .string y1, .string y2, .int .i64 y3] 70) zl7').trans hn7
                    refine hK.out _ _ ⟨box_cell hnA rfl, box_cell hnA rfl, box_cell hnA rfl, box_cell hnA rfl⟩ (fun hHeld => ?_)
                    clear hK
                    refine wpAnyH_ready (rs := [14]) (by kernel_rfl) (by simp) ?_
                    refine AllReadyH.cons rfl (fun K hK => ?_) AllReadyH.nil
                    refine step_append_lies _ (by rfl) _ _ 30 (by rfl) wq.heap.size 70 t0 (.agg #[.int .i64 0, .string ByteArray.empty, .string ByteArray.empty, .int .i64 0]) 4 48 Try.underlying30 ht hx0 hx1 hx2 rfl (by decide) v3 k3 (cellsT (tn.take k3)) (by rfl) ((own_later (own_later HV.out bwr3) hb37).alloc _) ⟨w7.heap.size, 0, none⟩ 1 _ [.int .i64 y0, .string y1, .string y2, .int .i64 y3] (by rfl) rfl (cells_new w7 _ _) (by intro u hu; simp at hu; rcases hu with rfl | rfl | rfl | rfl <;> rfl) (by omega) (by unfold maxLen; omega) (by omega) (by have := hb37.size; simp; omega) (w7.heap.size + 1) (by simp) ?_
                    intro g8 cap8 w8 hrow8 grow8 at8 lt8
                    have hold : ∀ y, y < wq.heap.size → w8.heap[y]? = wz.heap[y]? := fun y hy => (grow8.block y (by have := hb37.size; simp; omega) (fun e => by have := (HV.out.lt y e.symm).1; omega)).trans ((heap_alloc_old _ _ (by have := hb37.size; omega)).trans ((hb37.block y (by omega)).trans (bwr3.block y (by omega))))
                    have xo8 := (hold _ (by omega)).trans HBX.out.2.2
                    have so8 : w8.cell? ⟨w.heap.size + 1 + 1, 5, none⟩ = some v3 := box_cell xo8 rfl
                    have fo8 : w8.frozen? ⟨w.heap.size + 1 + 1, 5, none⟩ = false := box_frozen xo8
                    have hn8 := (grow8.block _ (by simp; omega) NB.out).trans hnA
                    have hn9 := (box_other (w := w8) (b := w.heap.size + 1 + 1) (j := 5) (.slice (some ⟨g8, 0, none⟩) (k3 + 1) cap8) (k := wz.heap.size) (by omega)).trans hn8
                    simp only [Act.put, List.setIfInBounds_toArray, List.set_cons_zero, List.set_cons_succ]
                    refine hK.out _ _ ⟨box_cell hn8 rfl, box_cell hn8 rfl, box_cell hn8 rfl, box_cell hn8 rfl⟩ (fun hHeld => ?_)
                    clear hK
                    refine wpAnyH_take (i := 15) (v := .pointer (some ⟨w.heap.size + 1 + 1, 5, none⟩)) rfl (by kernel_rfl) (by kernel_rfl) (by kernel_rfl) (fun _ _ _ h => h) (Or.inl ⟨by kernel_rfl, ?_⟩) (by assumption) ?_
                    · intro w9 hSw; (try dsimp only at hSw); go_simp
                    simp only [Act.put, List.setIfInBounds_toArray, List.set_cons_zero, List.set_cons_succ]
                    refine wpAnyH_ready (rs := [16]) (by kernel_rfl) (by simp) ?_
                    refine AllReadyH.cons rfl (fun K hK => ?_) AllReadyH.nil
                    go_simp
                    refine hK.out _ _ ⟨box_cell hn9 rfl, box_cell hn9 rfl, box_cell hn9 rfl, box_cell hn9 rfl⟩ (fun hHeld => ?_)
                    clear hK
                    refine wpAnyH_done (by kernel_rfl) ?_ _
                    have bB := bW3.trans (hb37.mono bW3.size)
                    have bBs := bB.size
                    have hbBs := hb37.size
                    have b8 : Below w.heap.size w w8 := (bB.alloc bBs _).grown grow8 (by simp; omega) (fun y h => by have := (HV.out.lt y h).1; omega)
                    have b9 : Below w.heap.size w (w8.setCell ⟨w.heap.size + 1 + 1, 5, none⟩ (.slice (some ⟨g8, 0, none⟩) (k3 + 1) cap8)) := b8.setCell (by show w.heap.size ≤ w.heap.size + 1 + 1; omega) _
                    have HV8 : Hid ((w8.setCell ⟨w.heap.size + 1 + 1, 5, none⟩ (.slice (some ⟨g8, 0, none⟩) (k3 + 1) cap8)).ownsRow wq.heap.size 70 4 (.slice (some ⟨g8, 0, none⟩) (k3 + 1) cap8) (k3 + 1) (cellsT (tn.take (k3 + 1)))) := by
                      show World.ownsRow _ _ _ _ _ _ _
                      have h1 : w8.ownsRow wq.heap.size 70 4 (.slice (some ⟨g8, 0, none⟩) (k3 + 1) cap8) (k3 + 1) (cellsT (tn.take (k3 + 1))) := by rw [HX.out, cellsT_snoc]; exact hrow8
                      refine ⟨h1.1, ?_⟩
                      rcases h1.2 with ⟨h2, _⟩ | ⟨g', cap', cur, hv, hg, hh, r⟩
                      · simp at h2
                      · exact .inr ⟨g', cap', cur, hv, hg, (box_other _ (by omega)).trans hh, r⟩
                    have HG8 : Hid (Gath shNode 65 (w8.setCell ⟨w.heap.size + 1 + 1, 5, none⟩ (.slice (some ⟨g8, 0, none⟩) (k3 + 1) cap8)) (w.heap.size + 3) (.slice av k cv) k nd Cs Fs) := (HG.out.keep (fun y hy => hold y (by have := (HLN.out y hy).2; omega))).other _ _ _ (by omega)
                    have HK8 : Hid (Own (.sl shLink) (w8.setCell ⟨w.heap.size + 1 + 1, 5, none⟩ (.slice (some ⟨g8, 0, none⟩) (k3 + 1) cap8)) wp.heap.size [.slice av1 k2 cv1] kp FK0) := HKz.out.keep fun y hy => (box_other _ (by have := (HK.out.2.2 y hy).1; omega)).trans (hold y (by have := (HK.out.2.2 y hy).2; omega))
                    have HBX8 : Hid ((w8.setCell ⟨w.heap.size + 1 + 1, 5, none⟩ (.slice (some ⟨g8, 0, none⟩) (k3 + 1) cap8)).heap[w.heap.size]? = some (.cells #[.int .i64 x0, .int .i64 x1, .int .i64 x2, .slice a3 k c3, .slice a4 k2 c4, .slice (some ⟨g5, 0, none⟩) n5 c5] 32 (0, 0)) ∧ (w8.setCell ⟨w.heap.size + 1 + 1, 5, none⟩ (.slice (some ⟨g8, 0, none⟩) (k3 + 1) cap8)).heap[w.heap.size + 1]? = some (.cells #[.int .i64 0, .int .i64 0, .int .i64 0, .slice none 0 0, .slice none 0 0, .slice none 0 0] 32 (0, 0)) ∧ (w8.setCell ⟨w.heap.size + 1 + 1, 5, none⟩ (.slice (some ⟨g8, 0, none⟩) (k3 + 1) cap8)).heap[w.heap.size + 1 + 1]? = some (.cells #[.int .i64 x0, .int .i64 x1, .int .i64 x2, .slice av k cv, .slice av1 k2 cv1, .slice (some ⟨g8, 0, none⟩) (k3 + 1) cap8] 32 (0, 0))) := ⟨(box_other _ (by omega)).trans ((hold _ (by omega)).trans HBX.out.1), (box_other _ (by omega)).trans ((hold _ (by omega)).trans HBX.out.2.1), by rw [box_set _ xo8]; rfl⟩
                    have hsz8 : wq.heap.size ≤ (w8.setCell ⟨w.heap.size + 1 + 1, 5, none⟩ (.slice (some ⟨g8, 0, none⟩) (k3 + 1) cap8)).heap.size := by have := grow8.size; simp at this ⊢; omega
                    clear HV HG HBX hold hrow8 grow8 at8 lt8 NB xo8 so8 fo8 yo hb36 hb37 hb6 hb7 g0 g1 g2 g3 zo6 zo7
                    go_wp2
                    go_roundw
                    case rel => exact ⟨k3 + 1, _, by omega, by go_num, HV8, HG8, HK8, b9, hsz8, HBX8⟩
                    case measure => simp [intOf]; omega
                  · go_simp
                    have hnA := (heap_alloc_old w7 (.cells #[.int .i64 y0, .string y1, .string y2, .int .i64 y3] 70) zl7').trans hn7
                    refine hK.out _ _ ⟨box_cell hnA rfl, box_cell hnA rfl, box_cell hnA rfl, box_cell hnA rfl⟩ (fun hHeld => ?_)
                    clear hK
                    refine wpAnyH_ready (rs := [1]) (by kernel_rfl) (by simp) ?_
                    refine AllReadyH.cons rfl (fun K hK => ?_) AllReadyH.nil
                    go_simp
                    refine hK.out _ _ ⟨box_cell hnA rfl, box_cell hnA rfl, box_cell hnA rfl, box_cell hnA rfl⟩ (fun hHeld => ?_)
                    clear hK
                    refine wpAnyH_ready (rs := [14]) (by kernel_rfl) (by simp) ?_
                    refine AllReadyH.cons rfl (fun K hK => ?_) AllReadyH.nil
                    refine step_append_lies _ (by rfl) _ _ 30 (by rfl) wq.heap.size 70 t0 (.agg #[.int .i64 0, .string ByteArray.empty, .string ByteArray.empty, .int .i64 0]) 4 48 Try.underlying30 ht hx0 hx1 hx2 rfl (by decide) v3 k3 (cellsT (tn.take k3)) (by rfl) ((own_later (own_later HV.out bwr3) hb37).alloc _) ⟨w7.heap.size, 0, none⟩ 1 _ [.int .i64 y0, .string y1, .string y2, .int .i64 y3] (by rfl) rfl (cells_new w7 _ _) (by intro u hu; simp at hu; rcases hu with rfl | rfl | rfl | rfl <;> rfl) (by omega) (by unfold maxLen; omega) (by omega) (by have := hb37.size; simp; omega) (w7.heap.size + 1) (by simp) ?_
                    intro g8 cap8 w8 hrow8 grow8 at8 lt8
                    have hold : ∀ y, y < wq.heap.size → w8.heap[y]? = wz.heap[y]? := fun y hy => (grow8.block y (by have := hb37.size; simp; omega) (fun e => by have := (HV.out.lt y e.symm).1; omega)).trans ((heap_alloc_old _ _ (by have := hb37.size; omega)).trans ((hb37.block y (by omega)).trans (bwr3.block y (by omega))))
                    have xo8 := (hold _ (by omega)).trans HBX.out.2.2
                    have so8 : w8.cell? ⟨w.heap.size + 1 + 1, 5, none⟩ = some v3 := box_cell xo8 rfl
                    have fo8 : w8.frozen? ⟨w.heap.size + 1 + 1, 5, none⟩ = false := box_frozen xo8
                    have hn8 := (grow8.block _ (by simp; omega) NB.out).trans hnA
                    have hn9 := (box_other (w := w8) (b := w.heap.size + 1 + 1) (j := 5) (.slice (some ⟨g8, 0, none⟩) (k3 + 1) cap8) (k := wz.heap.size) (by omega)).trans hn8
                    simp only [Act.put, List.setIfInBounds_toArray, List.set_cons_zero, List.set_cons_succ]
                    refine hK.out _ _ ⟨box_cell hn8 rfl, box_cell hn8 rfl, box_cell hn8 rfl, box_cell hn8 rfl⟩ (fun hHeld => ?_)
                    clear hK
                    refine wpAnyH_take (i := 15) (v := .pointer (some ⟨w.heap.size + 1 + 1, 5, none⟩)) rfl (by kernel_rfl) (by kernel_rfl) (by kernel_rfl) (fun _ _ _ h => h) (Or.inl ⟨by kernel_rfl, ?_⟩) (by assumption) ?_
                    · intro w9 hSw; (try dsimp only at hSw); go_simp
                    simp only [Act.put, List.setIfInBounds_toArray, List.set_cons_zero, List.set_cons_succ]
                    refine wpAnyH_ready (rs := [16]) (by kernel_rfl) (by simp) ?_
                    refine AllReadyH.cons rfl (fun K hK => ?_) AllReadyH.nil
                    go_simp
                    refine hK.out _ _ ⟨box_cell hn9 rfl, box_cell hn9 rfl, box_cell hn9 rfl, box_cell hn9 rfl⟩ (fun hHeld => ?_)
                    clear hK
                    refine wpAnyH_done (by kernel_rfl) ?_ _
                    have bB := bW3.trans (hb37.mono bW3.size)
                    have bBs := bB.size
                    have hbBs := hb37.size
                    have b8 : Below w.heap.size w w8 := (bB.alloc bBs _).grown grow8 (by simp; omega) (fun y h => by have := (HV.out.lt y h).1; omega)
                    have b9 : Below w.heap.size w (w8.setCell ⟨w.heap.size + 1 + 1, 5, none⟩ (.slice (some ⟨g8, 0, none⟩) (k3 + 1) cap8)) := b8.setCell (by show w.heap.size ≤ w.heap.size + 1 + 1; omega) _
                    have HV8 : Hid ((w8.setCell ⟨w.heap.size + 1 + 1, 5, none⟩ (.slice (some ⟨g8, 0, none⟩) (k3 + 1) cap8)).ownsRow wq.heap.size 70 4 (.slice (some ⟨g8, 0, none⟩) (k3 + 1) cap8) (k3 + 1) (cellsT (tn.take (k3 + 1)))) := by
                      show World.ownsRow _ _ _ _ _ _ _
                      have h1 : w8.ownsRow wq.heap.size 70 4 (.slice (some ⟨g8, 0, none⟩) (k3 + 1) cap8) (k3 + 1) (cellsT (tn.take (k3 + 1))) := by rw [HX.out, cellsT_snoc]; exact hrow8
                      refine ⟨h1.1, ?_⟩
                      rcases h1.2 with ⟨h2, _⟩ | ⟨g', cap', cur, hv, hg, hh, r⟩
                      · simp at h2
                      · exact .inr ⟨g', cap', cur, hv, hg, (box_other _ (by omega)).trans hh, r⟩
                    have HG8 : Hid (Gath shNode 65 (w8.setCell ⟨w.heap.size + 1 + 1, 5, none⟩ (.slice (some ⟨g8, 0, none⟩) (k3 + 1) cap8)) (w.heap.size + 3) (.slice av k cv) k nd Cs Fs) := (HG.out.keep (fun y hy => hold y (by have := (HLN.out y hy).2; omega))).other _ _ _ (by omega)
                    have HK8 : Hid (Own (.sl shLink) (w8.setCell ⟨w.heap.size + 1 + 1, 5, none⟩ (.slice (some ⟨g8, 0, none⟩) (k3 + 1) cap8)) wp.heap.size [.slice av1 k2 cv1] kp FK0) := HKz.out.keep fun y hy => (box_other _ (by have := (HK.out.2.2 y hy).1; omega)).trans (hold y (by have := (HK.out.2.2 y hy).2; omega))
                    have HBX8 : Hid ((w8.setCell ⟨w.heap.size + 1 + 1, 5, none⟩ (.slice (some ⟨g8, 0, none⟩) (k3 + 1) cap8)).heap[w.heap.size]? = some (.cells #[.int .i64 x0, .int .i64 x1, .int .i64 x2, .slice a3 k c3, .slice a4 k2 c4, .slice (some ⟨g5, 0, none⟩) n5 c5] 32 (0, 0)) ∧ (w8.setCell ⟨w.heap.size + 1 + 1, 5, none⟩ (.slice (some ⟨g8, 0, none⟩) (k3 + 1) cap8)).heap[w.heap.size + 1]? = some (.cells #[.int .i64 0, .int .i64 0, .int .i64 0, .slice none 0 0, .slice none 0 0, .slice none 0 0] 32 (0, 0)) ∧ (w8.setCell ⟨w.heap.size + 1 + 1, 5, none⟩ (.slice (some ⟨g8, 0, none⟩) (k3 + 1) cap8)).heap[w.heap.size + 1 + 1]? = some (.cells #[.int .i64 x0, .int .i64 x1, .int .i64 x2, .slice av k cv, .slice av1 k2 cv1, .slice (some ⟨g8, 0, none⟩) (k3 + 1) cap8] 32 (0, 0))) := ⟨(box_other _ (by omega)).trans ((hold _ (by omega)).trans HBX.out.1), (box_other _ (by omega)).trans ((hold _ (by omega)).trans HBX.out.2.1), by rw [box_set _ xo8]; rfl⟩
                    have hsz8 : wq.heap.size ≤ (w8.setCell ⟨w.heap.size + 1 + 1, 5, none⟩ (.slice (some ⟨g8, 0, none⟩) (k3 + 1) cap8)).heap.size := by have := grow8.size; simp at this ⊢; omega
                    clear HV HG HBX hold hrow8 grow8 at8 lt8 NB xo8 so8 fo8 yo hb36 hb37 hb6 hb7 g0 g1 g2 g3 zo6 zo7
                    go_wp2
                    go_roundw
                    case rel => exact ⟨k3 + 1, _, by omega, by go_num, HV8, HG8, HK8, b9, hsz8, HBX8⟩
                    case measure => simp [intOf]; omega
            · have e : k3 = n5 := by omega
              subst e
              have e9 : tn.take k3 = tn := List.take_of_length_le (by have := HL.out.2.2.1; omega)
              have HVa : Hid (wz.ownsRow wq.heap.size 70 4 v3 k3 (cellsT tn)) := by have h := HV.out; rw [e9] at h; exact h
              clear HV e9
              obtain ⟨FT, oT, ndT, atT, av2, cv2, rfl⟩ := own_turnsV HL.out.2.2.1 HL.out.2.2.2.2 HVa.out
              have hltT : ∀ y ∈ FT, wq.heap.size ≤ y ∧ y < wz.heap.size := oT.lt
              have hltK := HK.out.2.2
              obtain ⟨FN, oN, ndN, inN⟩ := HG.out.own
              have s0 : wz.cell? ⟨w.heap.size + 1 + 1, 0, none⟩ = some (.int .i64 x0) := box_cell HBX.out.2.2 rfl
              have s1 : wz.cell? ⟨w.heap.size + 1 + 1, 1, none⟩ = some (.int .i64 x1) := box_cell HBX.out.2.2 rfl
              have s2 : wz.cell? ⟨w.heap.size + 1 + 1, 2, none⟩ = some (.int .i64 x2) := box_cell HBX.out.2.2 rfl
              have s3 : wz.cell? ⟨w.heap.size + 1 + 1, 3, none⟩ = some (.slice av k cv) := box_cell HBX.out.2.2 rfl
              have s4 : wz.cell? ⟨w.heap.size + 1 + 1, 4, none⟩ = some (.slice av1 k2 cv1) := box_cell HBX.out.2.2 rfl
              have s5 : wz.cell? ⟨w.heap.size + 1 + 1, 5, none⟩ = some (.slice av2 k3 cv2) := box_cell HBX.out.2.2 rfl
              have m0 : wz.cell? ⟨w.heap.size + 1, 0, none⟩ = some (.int .i64 0) := box_cell HBX.out.2.1 rfl
              have u0 : wz.frozen? ⟨w.heap.size + 1, 0, none⟩ = false := box_frozen HBX.out.2.1
              have m1 : wz.cell? ⟨w.heap.size + 1, 1, none⟩ = some (.int .i64 0) := box_cell HBX.out.2.1 rfl
              have u1 : wz.frozen? ⟨w.heap.size + 1, 1, none⟩ = false := box_frozen HBX.out.2.1
              have m2 : wz.cell? ⟨w.heap.size + 1, 2, none⟩ = some (.int .i64 0) := box_cell HBX.out.2.1 rfl
              have u2 : wz.frozen? ⟨w.heap.size + 1, 2, none⟩ = false := box_frozen HBX.out.2.1
              have m3 : wz.cell? ⟨w.heap.size + 1, 3, none⟩ = some (.slice none 0 0) := box_cell HBX.out.2.1 rfl
              have u3 : wz.frozen? ⟨w.heap.size + 1, 3, none⟩ = false := box_frozen HBX.out.2.1
              have m4 : wz.cell? ⟨w.heap.size + 1, 4, none⟩ = some (.slice none 0 0) := box_cell HBX.out.2.1 rfl
              have u4 : wz.frozen? ⟨w.heap.size + 1, 4, none⟩ = false := box_frozen HBX.out.2.1
              have m5 : wz.cell? ⟨w.heap.size + 1, 5, none⟩ = some (.slice none 0 0) := box_cell HBX.out.2.1 rfl
              have u5 : wz.frozen? ⟨w.heap.size + 1, 5, none⟩ = false := box_frozen HBX.out.2.1
              have hfin : ∃ W, W = ((((((wz.setCell ⟨w.heap.size + 1, 0, none⟩ (.int .i64 x0)).setCell ⟨w.heap.size + 1, 1, none⟩ (.int .i64 x1)).setCell ⟨w.heap.size + 1, 2, none⟩ (.int .i64 x2)).setCell ⟨w.heap.size + 1, 3, none⟩ (.slice av k cv)).setCell ⟨w.heap.size + 1, 4, none⟩ (.slice av1 k2 cv1)).setCell ⟨w.heap.size + 1, 5, none⟩ (.slice av2 k3 cv2)) ∧ Own shDisk W w.heap.size [.int .i64 x0, .int .i64 x1, .int .i64 x2, .slice av k cv, .slice av1 k2 cv1, .slice av2 k3 cv2] d (FN ++ (FK0 ++ (FT ++ []))) ∧ Below w.heap.size w W ∧ (FN ++ (FK0 ++ (FT ++ []))).Nodup ∧ W.heap[w.heap.size + 1]? = some (.cells #[.int .i64 x0, .int .i64 x1, .int .i64 x2, .slice av k cv, .slice av1 k2 cv1, .slice av2 k3 cv2] 32 (0, 0)) := by
                refine ⟨_, rfl, ?_, ?_, ?_, ?_⟩
                · have keep : ∀ y, w.heap.size + 3 ≤ y → (((((((wz.setCell ⟨w.heap.size + 1, 0, none⟩ (.int .i64 x0)).setCell ⟨w.heap.size + 1, 1, none⟩ (.int .i64 x1)).setCell ⟨w.heap.size + 1, 2, none⟩ (.int .i64 x2)).setCell ⟨w.heap.size + 1, 3, none⟩ (.slice av k cv)).setCell ⟨w.heap.size + 1, 4, none⟩ (.slice av1 k2 cv1)).setCell ⟨w.heap.size + 1, 5, none⟩ (.slice av2 k3 cv2))).heap[y]? = wz.heap[y]? := fun y hy => ((box_other (b := w.heap.size + 1) (j := 5) (.slice av2 k3 cv2) (by omega)).trans ((box_other (b := w.heap.size + 1) (j := 4) (.slice av1 k2 cv1) (by omega)).trans ((box_other (b := w.heap.size + 1) (j := 3) (.slice av k cv) (by omega)).trans ((box_other (b := w.heap.size + 1) (j := 2) (.int .i64 x2) (by omega)).trans ((box_other (b := w.heap.size + 1) (j := 1) (.int .i64 x1) (by omega)).trans (box_other (b := w.heap.size + 1) (j := 0) (.int .i64 x0) (by omega)))))))
                  have c1 : Own (.sl shNode) (((((((wz.setCell ⟨w.heap.size + 1, 0, none⟩ (.int .i64 x0)).setCell ⟨w.heap.size + 1, 1, none⟩ (.int .i64 x1)).setCell ⟨w.heap.size + 1, 2, none⟩ (.int .i64 x2)).setCell ⟨w.heap.size + 1, 3, none⟩ (.slice av k cv)).setCell ⟨w.heap.size + 1, 4, none⟩ (.slice av1 k2 cv1)).setCell ⟨w.heap.size + 1, 5, none⟩ (.slice av2 k3 cv2))) w.heap.size [.slice av k cv] nd FN := (oN.keep fun y hy => keep y (HG.out.lt y (inN y hy)).1).base (by omega)
                  have c2 : Own (.sl shLink) (((((((wz.setCell ⟨w.heap.size + 1, 0, none⟩ (.int .i64 x0)).setCell ⟨w.heap.size + 1, 1, none⟩ (.int .i64 x1)).setCell ⟨w.heap.size + 1, 2, none⟩ (.int .i64 x2)).setCell ⟨w.heap.size + 1, 3, none⟩ (.slice av k cv)).setCell ⟨w.heap.size + 1, 4, none⟩ (.slice av1 k2 cv1)).setCell ⟨w.heap.size + 1, 5, none⟩ (.slice av2 k3 cv2))) w.heap.size [.slice av1 k2 cv1] kp FK0 := (HKz.out.keep fun y hy => keep y (by have := (hltK y hy).1; omega)).base (by omega)
                  have c3' : Own (.sl shTurn) (((((((wz.setCell ⟨w.heap.size + 1, 0, none⟩ (.int .i64 x0)).setCell ⟨w.heap.size + 1, 1, none⟩ (.int .i64 x1)).setCell ⟨w.heap.size + 1, 2, none⟩ (.int .i64 x2)).setCell ⟨w.heap.size + 1, 3, none⟩ (.slice av k cv)).setCell ⟨w.heap.size + 1, 4, none⟩ (.slice av1 k2 cv1)).setCell ⟨w.heap.size + 1, 5, none⟩ (.slice av2 k3 cv2))) w.heap.size [.slice av2 k3 cv2] tn FT := (oT.keep fun y hy => keep y (by have := (hltT y hy).1; omega)).base (by omega)
                  generalize (((((((wz.setCell ⟨w.heap.size + 1, 0, none⟩ (.int .i64 x0)).setCell ⟨w.heap.size + 1, 1, none⟩ (.int .i64 x1)).setCell ⟨w.heap.size + 1, 2, none⟩ (.int .i64 x2)).setCell ⟨w.heap.size + 1, 3, none⟩ (.slice av k cv)).setCell ⟨w.heap.size + 1, 4, none⟩ (.slice av1 k2 cv1)).setCell ⟨w.heap.size + 1, 5, none⟩ (.slice av2 k3 cv2))) = WW at c1 c2 c3' ⊢
                  obtain ⟨h0, h1, h2, h3, h4, h5⟩ := HD.out
                  subst h0 h1 h2 h3 h4 h5
                  exact own_Disk c1 c2 c3'
                · exact ((((((hbel).setCell (by show w.heap.size ≤ w.heap.size + 1; omega) _).setCell (by show w.heap.size ≤ w.heap.size + 1; omega) _).setCell (by show w.heap.size ≤ w.heap.size + 1; omega) _).setCell (by show w.heap.size ≤ w.heap.size + 1; omega) _).setCell (by show w.heap.size ≤ w.heap.size + 1; omega) _).setCell (by show w.heap.size ≤ w.heap.size + 1; omega) _
                · rw [List.append_nil, List.nodup_append, List.nodup_append]
                  refine ⟨ndN, ⟨HK.out.2.1, ndT, fun a ha b hb e => by have h1 := (hltK a ha).2; have h2 := (hltT b hb).1; omega⟩, fun a ha b hb e => ?_⟩
                  have h3 := (HLN.out a (inN a ha)).2
                  rcases List.mem_append.1 hb with h | h
                  · have h2 := (hltK b h).1; omega
                  · have h2 := (hltT b h).1; omega
                · have h9 := (box_set (j := 5) (.slice av2 k3 cv2) (box_set (j := 4) (.slice av1 k2 cv1) (box_set (j := 3) (.slice av k cv) (box_set (j := 2) (.int .i64 x2) (box_set (j := 1) (.int .i64 x1) (box_set (j := 0) (.int .i64 x0) HBX.out.2.1))))))
                  rw [h9]; rfl
              obtain ⟨WF, hWF, oF, bF, nF, xF⟩ := hfin
              have HF : Hid (WF = ((((((wz.setCell ⟨w.heap.size + 1, 0, none⟩ (.int .i64 x0)).setCell ⟨w.heap.size + 1, 1, none⟩ (.int .i64 x1)).setCell ⟨w.heap.size + 1, 2, none⟩ (.int .i64 x2)).setCell ⟨w.heap.size + 1, 3, none⟩ (.slice av k cv)).setCell ⟨w.heap.size + 1, 4, none⟩ (.slice av1 k2 cv1)).setCell ⟨w.heap.size + 1, 5, none⟩ (.slice av2 k3 cv2)) ∧ Own shDisk WF w.heap.size [.int .i64 x0, .int .i64 x1, .int .i64 x2, .slice av k cv, .slice av1 k2 cv1, .slice av2 k3 cv2] d (FN ++ (FK0 ++ (FT ++ []))) ∧ Below w.heap.size w WF ∧ (FN ++ (FK0 ++ (FT ++ []))).Nodup) := ⟨hWF, oF, bF, nF⟩
              have f0 : WF.cell? ⟨w.heap.size + 1, 0, none⟩ = some (.int .i64 x0) := box_cell xF rfl
              have f1 : WF.cell? ⟨w.heap.size + 1, 1, none⟩ = some (.int .i64 x1) := box_cell xF rfl
              have f2 : WF.cell? ⟨w.heap.size + 1, 2, none⟩ = some (.int .i64 x2) := box_cell xF rfl
              have f3 : WF.cell? ⟨w.heap.size + 1, 3, none⟩ = some (.slice av k cv) := box_cell xF rfl
              have f4 : WF.cell? ⟨w.heap.size + 1, 4, none⟩ = some (.slice av1 k2 cv1) := box_cell xF rfl
              have f5 : WF.cell? ⟨w.heap.size + 1, 5, none⟩ = some (.slice av2 k3 cv2) := box_cell xF rfl
              clear hWF oF bF nF xF oN ndN inN HG HKz oT HBX HVa atT ndT hltT hltK
              go_wp2
              rw [← HF.out.1]
              exact bodyPost_ret (v := .agg #[.int .i64 x0, .int .i64 x1, .int .i64 x2, .slice av k cv, .slice av1 k2 cv1, .slice av2 k3 cv2]) (by simp [results, Try.results52, go_sem, f0, f1, f2, f3, f4, f5]) rfl ⟨_, _, rfl, HF.out.2.1, HF.out.2.2.2, HF.out.2.2.1⟩

end Go.Proofs.Ytmhlligmehbehab
