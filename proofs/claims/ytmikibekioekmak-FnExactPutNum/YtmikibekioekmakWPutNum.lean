/-
  The walk of the law FnExactPutNum: it returns true and writes nothing that was there.
-/
import Derived.Test.YtmikibekioekmakKeep
import Derived.Test.YtmikibekioekmakPutI
namespace Go.Proofs.Ytmikibekioekmak
open Go.RowKit
set_option linter.unusedVariables false

theorem rd_nil (w : World) : Rd w none [] := ⟨fun i => by simp, .inl rfl⟩

theorem own_cells {w : World} {base g n cap : Nat} {zs : List Int} (hl : zs.length = n) (h : w.ownsRow base 5 1 (.slice (some ⟨g, 0, none⟩) n cap) n (zs.map (Value.int .u8))) :
    ∀ i, i < n → w.cell? ⟨g, 0 + i, none⟩ = some (.int .u8 (zs[i]?.getD 0)) := by
  intro i hi
  rw [Nat.zero_add, h.cellAt i (by omega)]
  simp [hl, hi]

set_option maxHeartbeats 2000000 in
theorem putNum_no (a : Option Addr) (n cap : Nat) (zs : List Int) (N s : Int) (w : World) (HL : Hid (zs.length = n)) (hr : Rd w a zs) (hn : n ≤ 1048576) (hN : -9223372036854775808 ≤ N ∧ N ≤ 9223372036854775807) (hs : -9223372036854775808 ≤ s ∧ s ≤ 9223372036854775807) (hg : ¬ pok n N s) :
    Calls Try.prog 3 #[.slice a n cap, .int .i64 N, .int .i64 s] w fun e w' => e = .returned (.bool true) ∧ Below w.heap.size w w' := by
  have hlt : ¬ (1048576 : Int) < (n : Int) := by omega
  have HG : Hid (¬ pok n N s) := hg
  clear hg
  have hnil : Hid (([] : List Int).length = 0) := rfl
  go_enter Try.func3, Try.ntmps3
  go_wp2_with fail
  refine (toByteS_any a n cap zs _ HL hr hn).mono ?_
  rintro e w1 ⟨rfl, ho1, hb1⟩
  go_wp2_with fail
  refine (specPut_no _ n _ N s _ (by omega) hN hs HG.out).mono ?_
  rintro e w1' ⟨rfl, rfl⟩
  go_wp2_with fail
  refine (toByteS_any a n cap zs _ HL (hr.later hb1) hn).mono ?_
  rintro e w2 ⟨rfl, ho2, hb2⟩
  have hb2' := hb1.trans (hb2.mono hb1.size)
  go_wp2_with fail
  refine (implPut_no _ n _ N s _ (by omega) hN hs HG.out).mono ?_
  rintro e w2' ⟨rfl, rfl⟩
  go_wp2_with fail
  refine (eqByteS_true _ _ 0 _ _ [] _ hnil (rd_nil _) (rd_nil _) (by omega)).mono ?_
  rintro e w3 ⟨rfl, hb3⟩
  have hb3' := hb2'.trans (hb3.mono hb2'.size)
  have ho3 := own_later ho2 hb3
  go_wp2_with fail
  refine (toByteS_any a n cap zs _ HL (hr.later hb3') hn).mono ?_
  rintro e w4 ⟨rfl, ho4, hb4⟩
  have hb4' := hb3'.trans (hb4.mono hb3'.size)
  have ho4' := own_later ho3 hb4
  go_wp2_with fail
  refine (eqByteS_true _ _ n _ _ zs _ HL (rd_own HL.out hr.1 ho4') (rd_own HL.out hr.1 ho4) (by omega)).mono ?_
  rintro e w5 ⟨rfl, hb5⟩
  have hb5' := hb4'.trans (hb5.mono hb4'.size)
  have ho5 := own_later ho4' hb5
  go_wp2_with fail
  refine (markByteS_any _ n _ _ zs _ HL (by omega) ho5).mono ?_
  rintro e w6 ⟨rfl, ho6, hg6⟩
  have hb6 : Below w.heap.size w w6 := hb5'.grown hg6 hb5'.size (fun k h => by cases h; exact hb1.size)
  clear ho1 ho2 ho3 ho4 ho4' ho5 ho6 hg6 hb5 hb4 hb3 hb2 hb5' hb4' hb3' hb2' hb1
  go_wp2_with fail
  refine (eqByteS_true _ _ 0 _ _ [] _ hnil (rd_nil _) (rd_nil _) (by omega)).mono ?_
  rintro e w7 ⟨rfl, hb7⟩
  have hb7' := hb6.trans (hb7.mono hb6.size)
  go_wp2_with fail
  refine (markByteS_none _ _ _).mono ?_
  rintro e w7' ⟨rfl, rfl⟩
  go_wp2_with fail
  refine (heldByteS_none _ _ _).mono ?_
  rintro e w7' ⟨rfl, rfl⟩
  go_wp2_with fail
  refine (toByteS_any a n cap zs _ HL (hr.later hb7') hn).mono ?_
  rintro e w8 ⟨rfl, ho8, hb8⟩
  have hb8' := hb7'.trans (hb8.mono hb7'.size)
  go_wp2_with fail
  refine (implPut_no _ n _ N s _ (by omega) hN hs HG.out).mono ?_
  rintro e w8' ⟨rfl, rfl⟩
  go_wp2_with fail
  refine (eqByteS_true _ _ 0 _ _ [] _ hnil (rd_nil _) (rd_nil _) (by omega)).mono ?_
  rintro e w9 ⟨rfl, hb9⟩
  have hb9' := hb8'.trans (hb9.mono hb8'.size)
  go_wp2_with fail
  refine (heldByteS_none _ _ _).mono ?_
  rintro e w9' ⟨rfl, rfl⟩
  go_wp2
  go_ret
  exact ⟨rfl, hb9'⟩

set_option maxHeartbeats 2000000 in
theorem putNum_yes (a : Option Addr) (n cap : Nat) (zs : List Int) (N : Int) (S : Nat) (w : World) (HL : Hid (zs.length = n)) (hr : Rd w a zs) (hs1 : 1 ≤ S) (hs4 : S ≤ 4) (hN : 0 ≤ N) (hNp : N < pw S) (hn : n + S ≤ 65536) :
    Calls Try.prog 3 #[.slice a n cap, .int .i64 N, .int .i64 S] w fun e w' => e = .returned (.bool true) ∧ Below w.heap.size w w' := by
  have hlt : ¬ (1048576 : Int) < (n : Int) := by omega
  obtain ⟨ys, hys⟩ : ∃ ys, ys = zs ++ pdig N S S := ⟨_, rfl⟩
  have hyl : Hid (ys.length = n + S) := by show ys.length = _; rw [hys, List.length_append, pdig_len, HL.out]
  have hyb : ∀ i : Nat, 0 ≤ ys[i]?.getD 0 ∧ ys[i]?.getD 0 ≤ 255 := by rw [hys]; exact put_bytes zs hr.1 N S S
  have HY : Hid (ys = zs ++ pdig N S S) := hys
  have hz := hr.1
  clear hys
  go_enter Try.func3, Try.ntmps3
  go_wp2_with fail
  refine (toByteS_any a n cap zs _ HL hr (by omega)).mono ?_
  rintro e w1 ⟨rfl, ho1, hb1⟩
  go_wp2_with fail
  refine (specPut_yes _ 0 n _ zs N S _ HL (ho1.lt _ rfl).2 (own_cells HL.out ho1) hs1 hs4 hN hNp hn).mono ?_
  rintro e w2 ⟨v, rfl, hv2, hb2⟩
  rw [← HY.out] at hv2
  obtain ⟨gW, cW, hvW, hW1, hW2⟩ := own_form hv2 (by omega)
  rw [hvW] at hv2 ⊢
  clear hvW
  have hb2' := hb1.trans (hb2.mono hb1.size)
  go_wp2_with fail
  refine (toByteS_any a n cap zs _ HL (hr.later hb2') (by omega)).mono ?_
  rintro e w3 ⟨rfl, ho3, hb3⟩
  have hx3 := (ho3.lt _ rfl).2
  have hb3' := hb2'.trans (hb3.mono hb2'.size)
  have hv3 := own_later hv2 hb3
  go_wp2_with fail
  refine (implPut_yes _ 0 n _ zs N S _ HL (ho3.lt _ rfl).2 (own_cells HL.out ho3) hs1 hs4 hN hNp hn).mono ?_
  rintro e w4 ⟨v, rfl, hu4, hb4⟩
  rw [← HY.out] at hu4
  obtain ⟨gG, cG, hvG, hG1, hG2⟩ := own_form hu4 (by omega)
  rw [hvG] at hu4 ⊢
  clear hvG
  have hb4' := hb3'.trans (hb4.mono hb3'.size)
  have hv4 := own_later hv3 hb4
  have ho4 := own_later ho3 hb4
  go_wp2_with fail
  refine (eqByteS_true _ _ (n + S) _ _ ys _ hyl (rd_own hyl.out hyb hu4) (rd_own hyl.out hyb hv4) (by omega)).mono ?_
  rintro e w5 ⟨rfl, hb5⟩
  have hb5' := hb4'.trans (hb5.mono hb4'.size)
  have hv5 := own_later hv4 hb5
  have hu5 := own_later hu4 hb5
  have ho5 := own_later ho4 hb5
  go_wp2_with fail
  refine (toByteS_any a n cap zs _ HL (hr.later hb5') (by omega)).mono ?_
  rintro e w6 ⟨rfl, ho6, hb6⟩
  have hb6' := hb5'.trans (hb6.mono hb5'.size)
  have hv6 := own_later hv5 hb6
  have hu6 := own_later hu5 hb6
  have ho6' := own_later ho5 hb6
  go_wp2_with fail
  refine (eqByteS_true _ _ n _ _ zs _ HL (rd_own HL.out hz ho6') (rd_own HL.out hz ho6) (by omega)).mono ?_
  rintro e w7 ⟨rfl, hb7⟩
  have hb7' := hb6'.trans (hb7.mono hb6'.size)
  have hv7 := own_later hv6 hb7
  have hu7 := own_later hu6 hb7
  have ho7 := own_later ho6' hb7
  go_wp2_with fail
  refine (markByteS_any _ n _ _ zs _ HL (by omega) ho7).mono ?_
  rintro e w8 ⟨rfl, ho8, hg8⟩
  have hs1' := hb1.size
  have hs2' := hb2.size
  have hb8 : Below w.heap.size w w8 := hb7'.grown hg8 hb7'.size (fun k h => by cases h; omega)
  have hv8 := hv7.kept hg8 (.inr (by simp [Value.ownBlock]; omega))
  have hu8 := hu7.kept hg8 (.inr (by simp [Value.ownBlock]; omega))
  clear ho1 ho3 ho4 ho5 ho6 ho6' ho7 ho8 hv2 hv3 hv4 hv5 hv6 hv7 hu4 hu5 hu6 hu7 hb7 hb6 hb5 hb4 hg8 hb7' hb6' hb5' hb4'
  go_wp2_with fail
  refine (eqByteS_true _ _ (n + S) _ _ ys _ hyl (rd_own hyl.out hyb hu8) (rd_own hyl.out hyb hv8) (by omega)).mono ?_
  rintro e w9 ⟨rfl, hb9⟩
  have hb9' := hb8.trans (hb9.mono hb8.size)
  have hv9 := own_later hv8 hb9
  have hu9 := own_later hu8 hb9
  go_wp2_with fail
  refine (markByteS_any _ (n + S) _ _ ys _ hyl (by omega) hu9).mono ?_
  rintro e w10 ⟨rfl, hu10, hg10⟩
  have hb10 : Below w.heap.size w w10 := hb9'.grown hg10 hb9'.size (fun k h => by cases h; have := hb3'.size; omega)
  have hv10 := hv9.kept hg10 (.inr (by simp [Value.ownBlock]; omega))
  clear hu8 hu9 hv8 hv9 hb9 hb9' hg10 hb8
  go_wp2_with fail
  refine (heldByteS_marked _ (n + S) _ _ ys _ hyl (by omega) hu10).mono ?_
  rintro e w10' ⟨rfl, rfl⟩
  go_wp2_with fail
  refine (toByteS_any a n cap zs _ HL (hr.later hb10) (by omega)).mono ?_
  rintro e w11 ⟨rfl, ho11, hb11⟩
  have hb11' := hb10.trans (hb11.mono hb10.size)
  have hv11 := own_later hv10 hb11
  have hu11 := own_later hu10 hb11
  go_wp2_with fail
  refine (implPut_yes _ 0 n _ zs N S _ HL (ho11.lt _ rfl).2 (own_cells HL.out ho11) hs1 hs4 hN hNp hn).mono ?_
  rintro e w12 ⟨v, rfl, ht12, hb12⟩
  rw [← HY.out] at ht12
  obtain ⟨gT, cT, hvT, hT1, hT2⟩ := own_form ht12 (by omega)
  rw [hvT] at ht12 ⊢
  clear hvT
  have hb12' := hb11'.trans (hb12.mono hb11'.size)
  have hv12 := own_later hv11 hb12
  have hu12 := own_later hu11 hb12
  go_wp2_with fail
  refine (eqByteS_true _ _ (n + S) _ _ ys _ hyl (rd_own hyl.out hyb ht12) (rd_own hyl.out hyb hv12) (by omega)).mono ?_
  rintro e w13 ⟨rfl, hb13⟩
  have hb13' := hb12'.trans (hb13.mono hb12'.size)
  have hu13 := own_later hu12 hb13
  go_wp2_with fail
  refine (heldByteS_marked _ (n + S) _ _ ys _ hyl (by omega) hu13).mono ?_
  rintro e w13' ⟨rfl, rfl⟩
  go_wp2
  go_ret
  exact ⟨rfl, hb13'⟩

theorem putNum_law (a : Option Addr) (n cap : Nat) (zs : List Int) (N s : Int) (w : World) (hl : zs.length = n) (hr : Rd w a zs) (hm : n ≤ maxLen) (hN : -9223372036854775808 ≤ N ∧ N ≤ 9223372036854775807) (hs : -9223372036854775808 ≤ s ∧ s ≤ 9223372036854775807) :
    Calls Try.prog 3 #[.slice a n cap, .int .i64 N, .int .i64 s] w fun e w' => e = .returned (.bool true) ∧ Below w.heap.size w w' := by
  have HL : Hid (zs.length = n) := hl
  clear hl
  unfold maxLen at hm
  by_cases hn : n ≤ 1048576
  · by_cases hg : pok n N s
    · obtain ⟨g1, g2, g3, g4, g5⟩ := hg
      obtain ⟨S, rfl⟩ := Int.eq_ofNat_of_zero_le (Int.le_trans (by decide) g1)
      have e : ((S : Int)).toNat = S := by omega
      rw [e] at g4
      exact putNum_yes a n cap zs N S w HL hr (by omega) (by omega) g3 g4 (by omega)
    · exact putNum_no a n cap zs N s w HL hr hn hN hs hg
  · have hlt : (1048576 : Int) < (n : Int) := by omega
    go_enter Try.func3, Try.ntmps3
    go_wp2
    go_ret
    exact ⟨rfl, Below.refl _ _⟩

end Go.Proofs.Ytmikibekioekmak
