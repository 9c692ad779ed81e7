/-
  GridRow, the model's.
-/
import Derived.Test.YtadnboknickfkaaDoorGrT
import Derived.Test.YtadnboknickfkaaDoorGrL
import Derived.Deep.AppendLies
import Derived.BigQuiet
namespace Go.Proofs.YtadnboknickfkaaDoor
open Go.RowKit
set_option linter.unusedVariables false
set_option linter.unusedSimpArgs false

theorem stripI_take {F : List Int} {j : Nat} (hj : j ≤ F.length) (h0 : 0 < j) (h : F[j - 1]?.getD 0 = 32) : stripI (F.take j) = stripI (F.take (j - 1)) := by
  obtain ⟨i, rfl⟩ : ∃ i, j = i + 1 := ⟨j - 1, by omega⟩
  have hi : i < F.length := by omega
  have h' : F[i] = 32 := by simpa [hi] using h
  rw [List.take_succ_eq_append_getElem hi, stripI_snoc, if_pos h']
  rfl
theorem stripI_stop {F : List Int} {j : Nat} (hj : j ≤ F.length) (h0 : 0 < j) (h : ¬ F[j - 1]?.getD 0 = 32) : stripI (F.take j) = F.take j := by
  obtain ⟨i, rfl⟩ : ∃ i, j = i + 1 := ⟨j - 1, by omega⟩
  have hi : i < F.length := by omega
  have h' : ¬ F[i] = 32 := by simpa [hi] using h
  rw [List.take_succ_eq_append_getElem hi, stripI_snoc, if_neg h']
theorem noHalf_take {R : List Int} {k : Nat} (hk : k < R.length) : noHalf (R.take (k + 1)) = if R[k]?.getD 0 = -1 then noHalf (R.take k) else noHalf (R.take k) ++ [R[k]?.getD 0] := by
  rw [List.take_succ_eq_append_getElem hk, noHalf_snoc]
  simp [hk]
theorem noHalf_len (l : List Int) : (noHalf l).length ≤ l.length := List.length_filter_le _ _
theorem bel_drL {B : Nat} {x w : World} (h : Below B x w) (q : Nat) : Below B x (w.drewN q) := ⟨h.os, h.tape, h.output, h.size, h.block⟩
def slenL : Value → Nat
  | .slice _ n _ => n
  | _ => 0
theorem own_capL {w : World} {base : Nat} {e : TypeId} {size g n cap : Nat} {xs : List Value} (h : w.ownsRow base e size (.slice (some ⟨g, 0, none⟩) n cap) n xs) : n ≤ cap ∧ cap ≤ maxLen := by
  rcases h.2 with ⟨h1, _⟩ | ⟨g', cap', cur, hv, hb, hg, hr, hm, _⟩
  · simp at h1
  · simp only [Value.slice.injEq, Option.some.injEq, Addr.mk.injEq, and_true, true_and] at hv
    obtain ⟨rfl, rfl⟩ := hv
    exact ⟨hr, hm⟩

set_option maxRecDepth 100000 in
set_option maxHeartbeats 4000000 in
theorem specRow_any (x0 x1 x3 x4 : Int) (a : Option Addr) (n c : Nat) (x5 : Bool) (zs : List Int) (y : Int) (w : World) (hr : Reads (.sl .int) w [.slice a n c] zs) :
    Calls Tryd.prog 6 #[.agg #[.int .i64 x0, .int .i64 x1, .slice a n c, .int .i64 x3, .int .i64 x4, .bool x5], .int .i64 y] w fun e w' => e = .returned (.string (rowA (x0, x1, zs, x3, x4, x5, ()) y)) ∧ Below w.heap.size w w' := by
  obtain ⟨i0, hi, hz0a, hz1a, hz2a⟩ := info_parts Tryd.infoI
  obtain ⟨hl, hrd, hc, hm⟩ := reads_ints hr
  unfold maxLen at hm
  have HR2 : Hid (RdI w a zs ∧ zs.length = n) := ⟨hrd, hl⟩
  obtain ⟨W0, hW0⟩ : ∃ W0, W0 = w.alloc (.cells #[.int .i64 x0, .int .i64 x1, .slice a n c, .int .i64 x3, .int .i64 x4, .bool x5] 27) := ⟨_, rfl⟩
  have bW0 : Below w.heap.size w W0 := by rw [hW0]; exact (Below.refl _ _).alloc (Nat.le_refl _) _
  have hbox : W0.heap[w.heap.size]? = some (.cells #[.int .i64 x0, .int .i64 x1, .slice a n c, .int .i64 x3, .int .i64 x4, .bool x5] 27 (0, 0)) := by rw [hW0]; exact heap_alloc_new w _
  have zW0 : W0.heap.size = w.heap.size + 1 := by rw [hW0]; simp
  have HW0 : Hid (W0 = _) := hW0
  have HBX : Hid (∀ w', Below W0.heap.size W0 w' → w'.heap[w.heap.size]? = some (.cells #[.int .i64 x0, .int .i64 x1, .slice a n c, .int .i64 x3, .int .i64 x4, .bool x5] 27 (0, 0))) := fun w' h' => (h'.block _ (by omega)).trans hbox
  have HB0 : Hid (Below w.heap.size w W0) := bW0
  clear hW0 hbox zW0
  have qg : Hid (∀ b, gokB (x0, x1, zs, x3, x4, x5, ()) = b → Calls Tryd.prog 20 #[.agg #[.int .i64 x0, .int .i64 x1, .slice a n c, .int .i64 x3, .int .i64 x4, .bool x5]] W0 fun e w'' => e = .returned (.bool b) ∧ Below W0.heap.size W0 w'') := fun b hb => by rw [← hb]; exact specGok_any x0 x1 x3 x4 a n c x5 zs W0 (hr.later bW0)
  clear hr hrd hl bW0
  by_cases hg : gokB (x0, x1, zs, x3, x4, x5, ()) = true
  rotate_left
  · have HG : Hid (gokB (x0, x1, zs, x3, x4, x5, ()) = false) := by show _ = _; simpa using hg
    have E : Hid (rowA (x0, x1, zs, x3, x4, x5, ()) y = ByteArray.empty) := rowA_no (.inl HG.out)
    clear hg
    go_enter Tryd.func6, Tryd.ntmps6
    go_wp2_with fail
    rw [← HW0.out]
    refine (qg.out false HG.out).mono ?_
    rintro e w1 ⟨rfl, hb1⟩
    go_wp2
    go_ret
    exact ⟨by rw [E.out]; rfl, HB0.out.trans (hb1.mono HB0.out.size)⟩
  have HG : Hid (gokB (x0, x1, zs, x3, x4, x5, ()) = true) := hg
  clear hg
  by_cases k1 : y < 0
  · have E : Hid (rowA (x0, x1, zs, x3, x4, x5, ()) y = ByteArray.empty) := rowA_no (.inr (.inl k1))
    have d1 : decide (y < 0) = true := decide_eq_true k1
    go_enter Tryd.func6, Tryd.ntmps6
    go_wp2_with fail
    rw [← HW0.out]
    refine (qg.out true HG.out).mono ?_
    rintro e w1 ⟨rfl, hb1⟩
    go_wp2
    go_ret
    exact ⟨by rw [E.out]; rfl, HB0.out.trans (hb1.mono HB0.out.size)⟩
  have d1 : decide (y < 0) = false := decide_eq_false k1
  by_cases k2 : x1 ≤ y
  · have E : Hid (rowA (x0, x1, zs, x3, x4, x5, ()) y = ByteArray.empty) := rowA_no (.inr (.inr k2))
    have d2 : decide (x1 ≤ y) = true := decide_eq_true k2
    go_enter Tryd.func6, Tryd.ntmps6
    go_wp2_with fail
    rw [← HW0.out]
    refine (qg.out true HG.out).mono ?_
    rintro e w1 ⟨rfl, hb1⟩
    have i1 := HBX.out w1 hb1
    have y1 : w1.cell? ⟨w.heap.size, 1, none⟩ = some (.int .i64 x1) := box_cell i1 rfl
    have s1 : Hid (Below W0.heap.size W0 w1) := hb1
    clear hb1 i1
    go_wp2
    go_ret
    exact ⟨by rw [E.out]; rfl, HB0.out.trans (s1.out.mono HB0.out.size)⟩
  have d2 : decide (x1 ≤ y) = false := decide_eq_false k2
  obtain ⟨W, H, rfl, rfl, g1, g2, g3, g4, g5, hlen, hcl, hcu⟩ := gok_parts HG.out
  obtain ⟨Y, rfl⟩ := Int.eq_ofNat_of_zero_le (show 0 ≤ y by omega)
  have hYH : Y < H := by omega
  have d3 : decide (H ≤ Y) = false := decide_eq_false (by omega)
  have hnW : n = W * H := by have h1 := HR2.out.2; have h2 : zs.length = W * H := hlen; omega
  have h3 : (Y + 1) * W ≤ H * W := Nat.mul_le_mul_right _ hYH
  have h4 : (Y + 1) * W = Y * W + W := by rw [Nat.add_mul, Nat.one_mul]
  have h5 : H * W = n := by rw [hnW, Nat.mul_comm]
  have hmb : W * H ≤ 40000 := by
    have := mul_bd (x := (W : Int)) (y := (H : Int)) (by omega) (by omega) (by omega) (by omega)
    have e : ((W * H : Nat) : Int) = (W : Int) * (H : Int) := by simp
    omega
  have hne : zs ≠ [] := by intro e; have h1 := HR2.out.2; rw [e] at h1; simp at h1; omega
  obtain ⟨b, off, rfl, hb, hcell⟩ := HR2.out.1.resolve_left hne
  obtain ⟨p, hpp⟩ : ∃ p, p = Y * W := ⟨_, rfl⟩
  have hpi : (Y : Int) * (W : Int) = (p : Int) := by rw [hpp]; simp
  have hpn : p + W ≤ n := by omega
  have wp : IntKind.i64.wrap (p : Int) = (p : Int) := wrap_i64_in _ (by omega) (by omega)
  obtain ⟨R, hR⟩ : ∃ R, R = rowAt zs W Y := ⟨_, rfl⟩
  have hrl : R.length = W := by rw [hR]; exact rowAt_len (by have := HR2.out.2; omega)
  have HRC : Hid (∀ i, i < W → w.cell? ⟨b, off + (p + i), none⟩ = some (.int .i64 (R[i]?.getD 0))) := by
    intro i hi'
    rw [hcell (p + i) (by have := HR2.out.2; omega)]
    have := rowAt_at (c := zs) (W := W) (y := Y) hi'
    unfold at0 at this
    rw [hR, this, hpp]
  have E : Hid (rowA ((W : Int), (H : Int), zs, x3, x4, x5, ()) (Y : Int) = rowTx R) := by
    show _ = _
    rw [rowA_yes HG.out (show (0 : Int) ≤ (Y : Int) by omega) (show (Y : Int) < (H : Int) by omega), hR]
    show rowTx (rowAt zs (W : Int).toNat (Y : Int).toNat) = _
    rw [Int.toNat_natCast, Int.toNat_natCast]
  have HRL : Hid (R.length = W) := hrl
  have hn40 : n ≤ 40000 := by omega
  clear hR hrl hcell hne h3 h4 h5 hnW hpp hcl hcu hlen hmb k1 k2
  go_enter Tryd.func6, Tryd.ntmps6
  go_wp2_with fail
  rw [← HW0.out]
  refine (qg.out true HG.out).mono ?_
  rintro e w1 ⟨rfl, hb1⟩
  have s1 : Hid (Below W0.heap.size W0 w1) := hb1
  have y1 : w1.cell? ⟨w.heap.size, 1, none⟩ = some (.int .i64 H) := box_cell (HBX.out w1 hb1) rfl
  have hz1 := hb1.size
  have hz0 := HB0.out.size
  have o00 := World.ownsRow_lit (base := w1.heap.size) (e := 3) (size := 1) w1 #[] 0 (Nat.le_refl _) (Nat.zero_le _) rfl
  have S00 : Hid (Below W0.heap.size W0 (w1.alloc (.cells #[] 3))) := hb1.alloc hb1.size _
  clear hb1
  go_wp2
  go_loopw [5, 6] (fun v i wr => ∃ k m g cc : Nat, k ≤ W ∧ i = .int .i64 k ∧ m = (noHalf (R.take k)).length ∧ v = .slice (some ⟨g, 0, none⟩) m cc ∧ wr.ownsRow w1.heap.size 3 1 (.slice (some ⟨g, 0, none⟩) m cc) m ((noHalf (R.take k)).map (Value.int .i64)) ∧ Below W0.heap.size W0 wr) (fun _ i _ => W - (intOf i).toNat)
  case atStart => exact ⟨0, 0, w1.heap.size, 0, Nat.zero_le _, rfl, by simp [noHalf], rfl, by simpa [noHalf] using o00, S00.out⟩
  case round =>
    obtain ⟨k, m, g, cc, hk, rfl, hmm, rfl, ho, hbw⟩ := hrel
    have HO : Hid (wr.ownsRow w1.heap.size 3 1 (.slice (some ⟨g, 0, none⟩) m cc) m ((noHalf (R.take k)).map (Value.int .i64)) ∧ Below W0.heap.size W0 wr ∧ m = (noHalf (R.take k)).length) := ⟨ho, hbw, hmm⟩
    have i1 := HBX.out wr hbw
    have y0 : wr.cell? ⟨w.heap.size, 0, none⟩ = some (.int .i64 W) := box_cell i1 rfl
    have y2 : wr.cell? ⟨w.heap.size, 2, none⟩ = some (.slice (some ⟨b, off, none⟩) n c) := box_cell i1 rfl
    have hm40 : m ≤ W := by rw [hmm]; exact Nat.le_trans (noHalf_len _) (by rw [List.length_take]; omega)
    have hgl := ho.lt g rfl
    have hzw := hbw.size
    clear ho hbw i1 hmm
    by_cases hlt : k < W
    · obtain ⟨v, hv⟩ : ∃ v, v = R[k]?.getD 0 := ⟨_, rfl⟩
      have gc : wr.cell? ⟨b, off + (p + k), none⟩ = some (.int .i64 v) := by
        rw [hv]; exact ((HB0.out.trans (HO.out.2.1.mono HB0.out.size)).cell (p := ⟨b, off + (p + k), none⟩) hb).trans (HRC.out k hlt)
      have HN : Hid (noHalf (R.take (k + 1)) = if v = -1 then noHalf (R.take k) else noHalf (R.take k) ++ [v]) := by show _ = _; rw [hv]; exact noHalf_take (by rw [HRL.out]; exact hlt)
      have wpk : IntKind.i64.wrap ((p : Int) + (k : Int)) = (p : Int) + (k : Int) := wrap_i64_in _ (by omega) (by omega)
      have hlt' : (k : Int) < (W : Int) := by omega
      have j1 : (p : Int) + (k : Int) < (n : Int) := by omega
      have j2 : ((p : Int) + (k : Int)).toNat = p + k := by omega
      have j3 : (0 : Int) ≤ (p : Int) + (k : Int) := by omega
      clear hv
      by_cases hv1 : v = -1
      · have HN2 : Hid (noHalf (R.take (k + 1)) = noHalf (R.take k)) := by show _ = _; rw [HN.out, if_pos hv1]
        subst hv1
        go_wp2
        go_roundw
        case rel => exact ⟨k + 1, m, g, cc, by omega, by go_num, by rw [HN2.out]; exact HO.out.2.2, rfl, by rw [HN2.out]; exact HO.out.1, HO.out.2.1⟩
        case measure => simp [intOf]; omega
      · have HN2 : Hid (noHalf (R.take (k + 1)) = noHalf (R.take k) ++ [v]) := by show _ = _; rw [HN.out, if_neg hv1]
        have dv : (v != -1) = true := by simp [hv1]
        have o1 := HO.out.1.alloc (.cells #[.int .i64 v] 3)
        clear hv1
        go_wp2_with (at_builtin; refine wpList_append_lies _ rfl _ _ 22 rfl w1.heap.size 3 i0 (.int .i64 0) 1 8 Tryd.underlying22 hi hz0a hz1a hz2a rfl (by decide) _ m _ rfl o1 ⟨wr.heap.size, 0, none⟩ 1 _ [.int .i64 v] rfl rfl (World.news_of_block (heap_alloc_new wr _)) (by simp; rfl) (by decide) ?c3 ?c4 (by simp; omega) _ rfl ?_)
        case c3 => unfold maxLen; omega
        case c4 => omega
        intro ga ca w2 o2 hg2 hx2 hlt2
        have b2 : Below W0.heap.size W0 w2 := (HO.out.2.1.alloc hzw _).grown hg2 (by simp; omega) (fun z h => by cases h; exact Nat.le_trans hz1 hgl.1)
        have e1 : (noHalf (R.take k)).map (Value.int .i64) ++ [.int .i64 v] = (noHalf (R.take (k + 1))).map (Value.int .i64) := by rw [HN2.out]; simp
        rw [e1] at o2
        have HF : Hid (w2.ownsRow w1.heap.size 3 1 (.slice (some ⟨ga, 0, none⟩) (m + 1) ca) (m + 1) ((noHalf (R.take (k + 1))).map (Value.int .i64)) ∧ Below W0.heap.size W0 w2) := ⟨o2, b2⟩
        have hml : m + 1 = (noHalf (R.take (k + 1))).length := by rw [HN2.out, List.length_append, ← HO.out.2.2]; rfl
        have HML : Hid (m + 1 = (noHalf (R.take (k + 1))).length) := hml
        clear o1 o2 hg2 hx2 b2 e1 hml
        go_wp2
        go_roundw
        case rel => exact ⟨k + 1, m + 1, ga, ca, by omega, by go_num, HML.out, rfl, HF.out.1, HF.out.2⟩
        case measure => simp [intOf]; omega
    · have e : k = W := by omega
      subst e
      obtain ⟨F, hF⟩ : ∃ F, F = noHalf R := ⟨_, rfl⟩
      have hFk : noHalf (R.take k) = F := by rw [hF, ← HRL.out, List.take_length]
      have HFF : Hid (F = noHalf R) := hF
      have HQ : Hid (wr.ownsRow w1.heap.size 3 1 (.slice (some ⟨g, 0, none⟩) m cc) m (F.map (Value.int .i64)) ∧ Below W0.heap.size W0 wr ∧ m = F.length) := by rw [← hFk]; exact HO.out
      have hcap := own_capL HQ.out.1
      unfold maxLen at hcap
      have hmc := hcap.1
      have hcm2 := hcap.2
      clear HO hF hFk hcap
      go_wp2
      go_loopw [5] (fun v wq => ∃ j : Nat, j ≤ m ∧ v = .slice (some ⟨g, 0, none⟩) j cc ∧ stripI (F.take j) = stripI F ∧ ∃ q, wq = wr.drewN q) (fun v _ => slenL v)
      case atStart => exact ⟨m, Nat.le_refl _, rfl, by rw [HQ.out.2.2, List.take_length], 0, rfl⟩
      case round =>
        obtain ⟨j, hj, rfl, hst, q, rfl⟩ := hrel
        have HS : Hid (stripI (F.take j) = stripI F) := hst
        clear hst
        have tail : ∀ w', (∃ q, w' = wr.drewN q) → stripI F = F.take j → Calls Tryd.prog 21 #[.slice (some ⟨g, 0, none⟩) j cc] w' fun e w'' => e = .returned (.string (rowTx R)) ∧ Below w'.heap.size w' w'' := by
          rintro w' ⟨q', rfl⟩ hs
          have hjl : (F.take j).length = j := by rw [List.length_take, ← HQ.out.2.2]; omega
          have hrd : RdI (wr.drewN q') (some ⟨g, 0, none⟩) (F.take j) := by
            refine .inr ⟨g, 0, rfl, (HQ.out.1.lt g rfl).2, fun i hi => ?_⟩
            have hij : i < j := by omega
            have h8 := HQ.out.1.cellAt i (by omega)
            rw [Nat.zero_add]
            show wr.cell? _ = _
            rw [h8]
            have h9 : i < F.length := by rw [← HQ.out.2.2]; omega
            simp [hij, h9]
          have := specText_any (some ⟨g, 0, none⟩) j cc (F.take j) (wr.drewN q') hjl hrd (by omega)
          have e9 : txt (F.take j) j = tx (F.take j) := by have h9 := txt_all (F.take j); rw [hjl] at h9; exact h9
          rw [e9] at this
          unfold rowTx
          rw [← HFF.out, hs]
          exact this
        have QT : Hid (∀ w', (∃ q, w' = wr.drewN q) → stripI F = F.take j → Calls Tryd.prog 21 #[.slice (some ⟨g, 0, none⟩) j cc] w' fun e w'' => e = .returned (.string (rowTx R)) ∧ Below w'.heap.size w' w'') := tail
        have HBE : Hid (∀ q, Below w.heap.size w (wr.drewN q)) := fun q => bel_drL (HB0.out.trans (HQ.out.2.1.mono HB0.out.size)) q
        clear tail
        by_cases hj0 : j = 0
        · subst hj0
          have hs : Hid (stripI F = F.take 0) := by show _ = _; rw [← HS.out]; rfl
          go_wp2_with fail
          refine (QT.out _ ⟨_, rfl⟩ hs.out).mono ?_
          rintro e w3 ⟨rfl, hb3⟩
          go_wp2
          go_ret
          exact ⟨by rw [E.out]; rfl, (HBE.out _).trans (hb3.mono (HBE.out _).size)⟩
        · have hj0' : (0 : Int) < (j : Int) := by omega
          obtain ⟨v, hv⟩ : ∃ v, v = F[j - 1]?.getD 0 := ⟨_, rfl⟩
          have gc : wr.cell? ⟨g, j - 1, none⟩ = some (.int .i64 v) := by
            have h8 := HQ.out.1.cellAt (j - 1) (by omega)
            rw [h8, hv]
            have h9 : j - 1 < F.length := by rw [← HQ.out.2.2]; omega
            simp [h9]
          have HV : Hid (v = F[j - 1]?.getD 0) := hv
          have wj : IntKind.i64.wrap ((j : Int) - 1) = (j : Int) - 1 := wrap_i64_in _ (by omega) (by omega)
          have j1 : (j : Int) - 1 < (j : Int) := by omega
          have j2 : ((j : Int) - 1).toNat = j - 1 := by omega
          have j3 : (0 : Int) ≤ (j : Int) - 1 := by omega
          have j4 : (j : Int) - 1 ≤ (cc : Int) := by omega
          clear hv
          by_cases hv1 : v = 32
          · have hs : Hid (stripI (F.take (j - 1)) = stripI F) := by
              show _ = _
              rw [← HS.out]
              exact (stripI_take (j := j) (by rw [← HQ.out.2.2]; exact hj) (by omega) (by rw [← HV.out]; exact hv1)).symm
            subst hv1
            go_wp2
            go_roundw
            case rel => exact ⟨j - 1, by omega, rfl, hs.out, _, rfl⟩
            case measure => simp [slenL]; omega
          · have hs : Hid (stripI F = F.take j) := by
              show _ = _
              rw [← HS.out]
              exact stripI_stop (by rw [← HQ.out.2.2]; exact hj) (by omega) (by rw [← HV.out]; exact hv1)
            have dv : (v == 32) = false := by simpa using hv1
            clear hv1
            go_wp2_with fail
            refine (QT.out _ ⟨_, rfl⟩ hs.out).mono ?_
            rintro e w3 ⟨rfl, hb3⟩
            go_wp2
            go_ret
            exact ⟨by rw [E.out]; rfl, (HBE.out _).trans (hb3.mono (HBE.out _).size)⟩

end Go.Proofs.YtadnboknickfkaaDoor
