/-
  The walk of the law FnRunes: it returns true and writes nothing that was there.
-/
import Derived.Test.YtofbfbandipjoaaDoorRnBack
import Derived.Test.YtofbfbandipjoaaDoorDrawR
import Derived.Test.YtofbfbandipjoaaDoorWWidthOf
import Derived.Deep.RegionHeld3
namespace Go.Proofs.YtofbfbandipjoaaDoor
open Go.RowKit
set_option linter.unusedVariables false

theorem own_cap {w : World} {base : Nat} {e : TypeId} {size g n cap : Nat} {xs : List Value} (h : w.ownsRow base e size (.slice (some ⟨g, 0, none⟩) n cap) n xs) : n ≤ cap ∧ cap ≤ maxLen := by
  rcases h.2 with ⟨h1, _⟩ | ⟨g', cap', cur, hv, _, _, h1, h2, _⟩
  · simp at h1
  · simp only [Value.slice.injEq, Option.some.injEq, Addr.mk.injEq, and_true, true_and] at hv
    obtain ⟨rfl, rfl⟩ := hv
    exact ⟨h1, h2⟩

theorem bel_drewN {B : Nat} {x w : World} (h : Below B x w) (q : Nat) : Below B x (w.drewN q) := ⟨h.os, h.tape, h.output, h.size, h.block⟩

theorem implRb_len (c : Int) (k : Nat) (w : World) (hk : (rb c).length = k) (h0 : 0 < k) :
    Calls Tryd.prog 12 #[.int .i64 c] w fun e w' => ∃ g c2, e = .returned (.slice (some ⟨g, 0, none⟩) k c2) ∧ w'.ownsRow w.heap.size 5 1 (.slice (some ⟨g, 0, none⟩) k c2) k ((rb c).map (Value.int .u8)) ∧ Below w.heap.size w w' := by
  subst hk
  refine (implRb_any c w).mono ?_
  rintro e w1 ⟨v, rfl, ho, hb⟩
  obtain ⟨g, c2, rfl, _⟩ := own_form ho h0
  exact ⟨g, c2, rfl, ho, hb⟩

theorem own_cellsB' {w : World} {base g n cap : Nat} {zs : List Int} (hl : zs.length = n) (h : w.ownsRow base 5 1 (.slice (some ⟨g, 0, none⟩) n cap) n (zs.map (Value.int .u8))) :
    ∀ i, i < zs.length → w.cell? ⟨g, 0 + i, none⟩ = some (.int .u8 (zs[i]?.getD 0)) := by
  intro i hi
  rw [Nat.zero_add, h.cellAt i (by omega)]
  simp [hi]

theorem wd_one {r : Int} (h : prn r = true) : 1 ≤ wd r := by
  unfold wd
  rw [if_pos h]
  split <;> omega

theorem sumw_ge (ys : List Int) (h : ∀ y ∈ ys, prn y = true) : ∀ k, k ≤ ys.length → (k : Int) ≤ sumw ys k
  | 0, _ => by simp [sumw]
  | k + 1, hk => by
    have h1 := sumw_ge ys h k (by omega)
    have hm : ys[k]?.getD 0 ∈ ys := by
      have : k < ys.length := by omega
      simp [this]
    have h2 := wd_one (h _ hm)
    simp only [sumw]
    omega

theorem rok_of_prn {r : Int} (h : prn r = true) : rok r = true := by
  unfold prn at h
  simp only [Bool.and_eq_true] at h
  exact h.1

theorem text_runes (ys : List Int) (m : Nat) (hy : ys.length = m) (hm : m ≤ 20) (hp : ∀ y ∈ ys, prn y = true) (w : World) (hT : Tabs w) :
    Calls Tryd.prog 8 #[.string (strOfNums (txt ys m))] w fun e w' => ∃ g c, e = .returned (.tuple #[.slice (some ⟨g, 0, none⟩) m c, .bool true]) ∧ w'.ownsRow w.heap.size 3 1 (.slice (some ⟨g, 0, none⟩) m c) m (ys.map (Value.int .i64)) ∧ Below w.heap.size w w' := by
  subst hy
  obtain ⟨h1, h2⟩ := text_back ys (fun y h => rok_of_prn (hp y h)) (by omega)
  have := implRof_yes _ w hT h1
  rw [h2] at this
  exact this

set_option maxRecDepth 100000 in
set_option maxHeartbeats 4000000 in
theorem runes_law (a : Option Addr) (n cap : Nat) (zs : List Int) (w : World) (hT : Tabs w) (hl : zs.length = n) (hr : Rd w a zs) (hm : n ≤ maxLen) :
    Calls Tryd.prog 3 #[.slice a n cap] w fun e w' => e = .returned (.bool true) ∧ Below w.heap.size w w' := by
  have HL : Hid (zs.length = n) := hl
  have HR : Hid (Rd w a zs) := hr
  clear hl hr
  unfold maxLen at hm
  by_cases hn : n ≤ 1048576
  · have hlt : ¬ (1048576 : Int) < (n : Int) := by omega
    go_enter Tryd.func3, Tryd.ntmps3
    go_wp2_with fail
    refine (makeRunes_any a n cap zs _ HL hn HR.out).mono ?_
    rintro e w1 ⟨ys, m, g, cp, hm20, hy, hyp, rfl, ho1, hb1⟩
    have HY : Hid (ys.length = m) := hy
    have HP : Hid (∀ y ∈ ys, prn y = true) := hyp
    have hrof : Hid (∀ w', Tabs w' → _) := fun w' h' => text_runes ys m hy hm20 hyp w' h'
    clear hy hyp
    go_wp2_with fail
    refine (implText_any _ m cp ys _ HY (rdI_own HY.out ho1) (by omega)).mono ?_
    rintro e w2 ⟨rfl, hb2⟩
    have hb2' := hb1.trans (hb2.mono hb1.size)
    have ho2 := own_later ho1 hb2
    obtain ⟨S0, hS0⟩ : ∃ S0, S0 = strOfNums (txt ys m) := ⟨_, rfl⟩
    rw [← hS0] at hrof ⊢
    clear hS0 ho1
    go_wp2_with fail
    refine (hrof.out _ (hT.later hb2')).mono ?_
    rintro e w3 ⟨g3, c3, rfl, ho3, hb3⟩
    have hb3' := hb2'.trans (hb3.mono hb2'.size)
    have ho2' := own_later ho2 hb3
    clear ho2
    go_wp2_with fail
    refine (sameInts_true _ _ m _ _ ys _ HY (rdI_own HY.out ho3) (rdI_own HY.out ho2') (by omega)).mono ?_
    rintro e w4 ⟨rfl, q4, hw4⟩
    have hb34 : Below w3.heap.size w3 w4 := by rw [hw4]; exact ⟨rfl, rfl, rfl, Nat.le_refl _, fun k _ => rfl⟩
    have hb4 := hb3'.trans (hb34.mono hb3'.size)
    have ho4 := own_later ho2' hb34
    clear hw4 ho2' ho3
    go_wp2_with fail
    refine (makeBytes_any a n cap zs _ HL hn (HR.out.later hb4)).mono ?_
    rintro e w5 ⟨bs, mb, gb, cb, hmb, hbl, hbb, rfl, hob, hb45⟩
    have HBL : Hid (bs.length = mb) := hbl
    have HBB : Hid (isBytes bs) := hbb
    clear hbl hbb
    have hb5 := hb4.trans (hb45.mono hb4.size)
    have ho5 := own_later ho4 hb45
    have hcp := own_cap hob
    clear ho4
    obtain ⟨v1, hv1⟩ : ∃ v : Int, v = (rra bs 0).1 := ⟨_, rfl⟩
    obtain ⟨v2, hv2⟩ : ∃ v : Int, v = (rra bs 0).2 := ⟨_, rfl⟩
    have HV : Hid (v1 = _ ∧ v2 = _) := ⟨hv1, hv2⟩
    clear hv1 hv2
    go_wp2_with fail
    refine (implRrd_any _ mb cb bs 0 _ (hT.later hb5) HBL.out (rd_own HBL.out HBB.out hob) (by omega) hcp.1 hcp.2).mono ?_
    rintro e w6 ⟨rfl, hb56⟩
    rw [← HV.out.1, ← HV.out.2]
    have hb6 := hb5.trans (hb56.mono hb5.size)
    have ho6 := own_later ho5 hb56
    have hob6 := own_later hob hb56
    clear ho5 hob
    -- what stands behind the second test
    have tail : Hid (v2 = 0 ∨ (v2 ≠ 0 ∧ ∃ k : Nat, 1 ≤ k ∧ k ≤ mb ∧ v2 = (k : Int) ∧ rb v1 = bs.take k ∧ rok v1 = true)) := by
      show _ ∨ _
      by_cases hz : v2 = 0
      · exact .inl hz
      · right
        refine ⟨hz, ?_⟩
        have hnb : 0 < mb := by
          rcases Nat.eq_zero_or_pos mb with h | h
          · exfalso; apply hz
            rw [HV.out.2]; unfold rra; rw [if_pos (by rw [HBL.out]; omega)]
          · exact h
        have e0 : rra bs 0 = rrd bs 0 := by unfold rra; rw [if_neg (by rw [HBL.out]; omega)]; rfl
        have hz' : (rrd bs 0).2 ≠ 0 := by rw [← e0, ← HV.out.2]; exact hz
        obtain ⟨k, h1, h2, h3, h4, h5⟩ := rrd_inv bs 0 HBB.out (by rw [HBL.out]; omega) hz'
        rw [← e0, ← HV.out.1] at h4 h5
        rw [← e0, ← HV.out.2] at h3
        exact ⟨k, h1, by rw [HBL.out] at h2; omega, h3, by simpa using h4, h5⟩
    rcases tail.out with hz | ⟨hz, kk, hkk1, hkb, hvk, hrb, hok⟩
    · subst hz
      clear tail HV
      have HB6 : Hid (Below w.heap.size w w6) := hb6
      have HO6 : Hid (w6.ownsRow w.heap.size 3 1 (.slice (some ⟨g, 0, none⟩) m cp) m (ys.map (Value.int .i64))) := ho6
      clear hb6 ho6 hob6
      go_wp2
      go_quiet (fail)
      go_wp2
      have HB7 : Hid (Below w.heap.size w (w6.drewN nq)) := bel_drewN HB6.out nq
      have HO7 : Hid ((w6.drewN nq).ownsRow w.heap.size 3 1 (.slice (some ⟨g, 0, none⟩) m cp) m (ys.map (Value.int .i64))) := HO6.out
      obtain ⟨w7, hw7⟩ : ∃ w7, w7 = w6.drewN nq := ⟨_, rfl⟩
      rw [← hw7] at HB7 HO7 ⊢
      clear hw7
      go_loop [10, 54] (fun s i => ∃ k : Nat, k ≤ m ∧ s = .int .i64 (sumw ys k) ∧ i = .int .i64 k) (fun _ i => m - (intOf i).toNat)
      case atStart => exact ⟨0, Nat.zero_le _, rfl, rfl⟩
      case round =>
        obtain ⟨k, hk, rfl, rfl⟩ := hrel
        have s1 := sumw_bd ys k
        by_cases hkm : k < m
        · obtain ⟨x, hx⟩ : ∃ x, x = ys[k]?.getD 0 := ⟨_, rfl⟩
          obtain ⟨S, hS⟩ : ∃ S, S = sumw ys k := ⟨_, rfl⟩
          have hcell : (w7).cell? ⟨g, k, none⟩ = some (.int .i64 x) := by
            rw [hx]
            have h1 := (HO7).out.cellAt k (by omega)
            have h2 : k < ys.length := by rw [HY.out]; omega
            refine Eq.trans h1 ?_
            simp [h2]
          have HD : Hid (sumw ys (k + 1) = S + wd x) := by show sumw ys (k + 1) = _; rw [sumw, hx, hS]
          have s2 := wd_bd x
          rw [← hS] at s1 ⊢
          clear hS hx
          go_wp2_with fail
          refine (implWid_any x _).mono ?_
          rintro e wz ⟨rfl, rfl⟩
          go_wp2
          go_round
          case rel => exact ⟨k + 1, by omega, by rw [HD.out], by go_num⟩
          case measure => simp [intOf]; omega
        · have e : k = m := by omega
          subst e
          have hge := sumw_ge ys HP.out k (by rw [HY.out]; omega)
          have hwid : Hid (∀ w', RdI w' (some ⟨g, 0, none⟩) ys → _) := fun w' h' => implWidOf_any (some ⟨g, 0, none⟩) k cp ys w' HY h' (by omega)
          obtain ⟨S, hS⟩ : ∃ S, S = sumw ys k := ⟨_, rfl⟩
          rw [← hS] at s1 hge hwid ⊢
          clear hS
          have hss : (S == S) = true := by simp
          by_cases hk0 : k = 0
          · subst hk0
            go_wp2_with fail
            refine (hwid.out _ (rdI_own HY.out (HO7).out)).mono ?_
            rintro e wz ⟨rfl, hbz⟩
            have hBz := (HB7).out.trans (hbz.mono (HB7).out.size)
            go_wp2
            go_ret
            exact ⟨rfl, hBz⟩
          · have hk1 : ((k : Int) == 0) = false := by simp; omega
            go_wp2_with fail
            refine (hwid.out _ (rdI_own HY.out (HO7).out)).mono ?_
            rintro e wz ⟨rfl, hbz⟩
            have hBz := (HB7).out.trans (hbz.mono (HB7).out.size)
            go_wp2
            go_ret
            exact ⟨rfl, hBz⟩
    · have hlk : (rb v1).length = kk := by rw [hrb, List.length_take, HBL.out]; omega
      have himp : Hid (∀ w', Calls Tryd.prog 12 #[.int .i64 v1] w' fun e w1 => ∃ g c2, e = .returned (.slice (some ⟨g, 0, none⟩) kk c2) ∧ w1.ownsRow w'.heap.size 5 1 (.slice (some ⟨g, 0, none⟩) kk c2) kk ((rb v1).map (Value.int .u8)) ∧ Below w'.heap.size w' w1) := fun w' => implRb_len v1 kk w' hlk (by omega)
      obtain ⟨S1, hS1⟩ : ∃ S1, S1 = strOfNums (rb v1) := ⟨_, rfl⟩
      have q1 : Hid (∀ (w' : World) (base g2 c2 : Nat), w'.ownsRow base 5 1 (.slice (some ⟨g2, 0, none⟩) kk c2) kk ((rb v1).map (Value.int .u8)) → (convert 22 9 (.slice (some ⟨g2, 0, none⟩) kk c2)).run Tryd.prog w' = .ok (.string S1) w') := by
        intro w' base g2 c2 h
        rw [hS1]
        exact own_conv hlk h
      have q2 : (∀ w', Below w6.heap.size w6 w' → (convert 22 9 (.slice (some ⟨gb, 0, none⟩) kk cb)).run Tryd.prog w' = .ok (.string S1) w') := by
        intro w' h
        have ho := own_later hob6 h
        have := sub_conv (w := w') (b := gb) (off := 0) (A := 0) (k := kk) (c := cb) (zs := bs) (by rw [HBL.out]; omega) (own_cellsB' HBL.out ho)
        rw [hS1, hrb]
        simpa using this
      subst hvk
      have hd1 : decide ((0 : Int) < (kk : Int)) = true := by simp; omega
      have hd2 : decide (0 < kk) = true := by simp; omega
      have hkc : (kk : Int) ≤ (cb : Int) := by omega
      have HB6 : Hid (Below w.heap.size w w6) := hb6
      have HO6 : Hid (w6.ownsRow w.heap.size 3 1 (.slice (some ⟨g, 0, none⟩) m cp) m (ys.map (Value.int .i64))) := ho6
      have hbb : Below w6.heap.size w6 w6 := Below.refl _ _
      clear tail HV hb6 ho6 hob6 hS1 hlk hrb
      have hne : (S1.toList != S1.toList) = false := by simp
      go_wp2_with fail
      go_region_held (fun w' => Below w6.heap.size w6 w')
        (first | assumption | exact Below.drew (by assumption) | (refine Below.trans ?h1 (Below.mono hb7 ?h2); assumption; exact Below.size (by assumption)) | go_keep)
        ((go_at_call 12; refine (himp.out _).mono ?_; rintro e w7 ⟨g2, c2, rfl, ho7, hb7⟩; have c1 := q1.out _ _ _ _ ho7))
      have hh : Below w6.heap.size w6 w7 := by assumption
      have HB7 : Hid (Below w.heap.size w w7) := HB6.out.trans (hh.mono HB6.out.size)
      have HO7 : Hid (w7.ownsRow w.heap.size 3 1 (.slice (some ⟨g, 0, none⟩) m cp) m (ys.map (Value.int .i64))) := own_later HO6.out hh
      have hn0 : ((kk : Int) == 0) = false := by simp; omega
      clear c1 ho7 hb7 q1 q2 himp HB6 HO6
      go_wp2
      go_loop [10, 54] (fun s i => ∃ k : Nat, k ≤ m ∧ s = .int .i64 (sumw ys k) ∧ i = .int .i64 k) (fun _ i => m - (intOf i).toNat)
      case atStart => exact ⟨0, Nat.zero_le _, rfl, rfl⟩
      case round =>
        obtain ⟨k, hk, rfl, rfl⟩ := hrel
        have s1 := sumw_bd ys k
        by_cases hkm : k < m
        · obtain ⟨x, hx⟩ : ∃ x, x = ys[k]?.getD 0 := ⟨_, rfl⟩
          obtain ⟨S, hS⟩ : ∃ S, S = sumw ys k := ⟨_, rfl⟩
          have hcell : (w7).cell? ⟨g, k, none⟩ = some (.int .i64 x) := by
            rw [hx]
            have h1 := (HO7).out.cellAt k (by omega)
            have h2 : k < ys.length := by rw [HY.out]; omega
            refine Eq.trans h1 ?_
            simp [h2]
          have HD : Hid (sumw ys (k + 1) = S + wd x) := by show sumw ys (k + 1) = _; rw [sumw, hx, hS]
          have s2 := wd_bd x
          rw [← hS] at s1 ⊢
          clear hS hx
          go_wp2_with fail
          refine (implWid_any x _).mono ?_
          rintro e wz ⟨rfl, rfl⟩
          go_wp2
          go_round
          case rel => exact ⟨k + 1, by omega, by rw [HD.out], by go_num⟩
          case measure => simp [intOf]; omega
        · have e : k = m := by omega
          subst e
          have hge := sumw_ge ys HP.out k (by rw [HY.out]; omega)
          have hwid : Hid (∀ w', RdI w' (some ⟨g, 0, none⟩) ys → _) := fun w' h' => implWidOf_any (some ⟨g, 0, none⟩) k cp ys w' HY h' (by omega)
          obtain ⟨S, hS⟩ : ∃ S, S = sumw ys k := ⟨_, rfl⟩
          rw [← hS] at s1 hge hwid ⊢
          clear hS
          have hss : (S == S) = true := by simp
          by_cases hk0 : k = 0
          · subst hk0
            go_wp2_with fail
            refine (hwid.out _ (rdI_own HY.out (HO7).out)).mono ?_
            rintro e wz ⟨rfl, hbz⟩
            have hBz := (HB7).out.trans (hbz.mono (HB7).out.size)
            go_wp2_with fail
            refine (implRuneOk_any v1 _).mono ?_
            rintro e wy ⟨rfl, rfl⟩
            rw [hok]
            go_wp2
            go_ret
            exact ⟨rfl, hBz⟩
          · have hk1 : ((k : Int) == 0) = false := by simp; omega
            go_wp2_with fail
            refine (hwid.out _ (rdI_own HY.out (HO7).out)).mono ?_
            rintro e wz ⟨rfl, hbz⟩
            have hBz := (HB7).out.trans (hbz.mono (HB7).out.size)
            go_wp2_with fail
            refine (implRuneOk_any v1 _).mono ?_
            rintro e wy ⟨rfl, rfl⟩
            rw [hok]
            go_wp2
            go_ret
            exact ⟨rfl, hBz⟩
  · have hlt : (1048576 : Int) < (n : Int) := by omega
    go_enter Tryd.func3, Tryd.ntmps3
    go_wp2
    go_ret
    exact ⟨rfl, Below.refl _ _⟩

end Go.Proofs.YtofbfbandipjoaaDoor
