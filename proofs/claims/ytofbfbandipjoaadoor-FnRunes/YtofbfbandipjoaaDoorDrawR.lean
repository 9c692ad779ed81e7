/-
  The draws of runes: l01Below beyond 256, l02Rune (a rune that can be printed), l02Runes and MakeRunes.
-/
import Derived.Test.YtofbfbandipjoaaDoorDrawB
import Derived.Test.YtofbfbandipjoaaDoorPrn
import Derived.Test.YtofbfbandipjoaaDoorIMarks
namespace Go.Proofs.YtofbfbandipjoaaDoor
open Go.RowKit
set_option linter.unusedVariables false

set_option maxHeartbeats 1000000 in
theorem below_great (base B : Nat) (a : Option Addr) (n cap : Nat) (zs : List Int) (m : Int) (w : World) (hl : Hid (zs.length = n)) (hn : n ≤ 1048576) (hc : Cur w base B a n cap zs) (hm1 : 256 < m) (hm2 : m ≤ 1000000000000) :
    Calls Tryd.prog 33 #[.pointer (some ⟨B, 0, none⟩), .int .i64 m] w fun e w' => ∃ x : Int, e = .returned (.int .i64 x) ∧ 0 ≤ x ∧ x < m ∧ Cur w' base B a n cap zs ∧ w.grownBy w' (some B) := by
  have h0 : ¬ (m ≤ 0) := by omega
  have h1 : ¬ (m ≤ 256) := by omega
  have HC : Hid (Cur w base B a n cap zs) := hc
  clear hc
  go_enter Tryd.func33, Tryd.ntmps33
  go_wp2_with fail
  refine (byte_any base B a n cap zs _ hl hn HC.out).mono ?_
  rintro e w1 ⟨x1, rfl, hx10, hx11, hc1, hg1⟩
  go_wp2_with fail
  refine (byte_any base B a n cap zs _ hl hn hc1).mono ?_
  rintro e w2 ⟨x2, rfl, hx20, hx21, hc2, hg2⟩
  go_wp2_with fail
  refine (byte_any base B a n cap zs _ hl hn hc2).mono ?_
  rintro e w3 ⟨x3, rfl, hx30, hx31, hc3, hg3⟩
  go_wp2_with fail
  refine (byte_any base B a n cap zs _ hl hn hc3).mono ?_
  rintro e w4 ⟨x4, rfl, hx40, hx41, hc4, hg4⟩
  have hm0 : m ≠ 0 := by omega
  have hr0 : 0 ≤ (x1 * 16777216 + x2 * 65536 + x3 * 256 + x4) % m := Int.emod_nonneg _ hm0
  have hr1 : (x1 * 16777216 + x2 * 65536 + x3 * 256 + x4) % m < m := Int.emod_lt_of_pos _ (by omega)
  have hgg := grownBy_trans (grownBy_trans (grownBy_trans hg1 hg2) hg3) hg4
  go_wp2
  go_ret
  exact ⟨_, rfl, hr0, hr1, hc4, hgg⟩

theorem prn_of {x : Int} (h1 : 32 ≤ x) (h2 : x < 55296 ∨ (57343 < x ∧ x ≤ 1114111)) (h3 : x < 127 ∨ 159 < x) : prn x = true := by
  simp only [prn, rok, Bool.and_eq_true, decide_eq_true_eq]; omega

def drawTab : List Int := [97, 98, 99, 120, 49, 50, 32, 32, 46, 45, 95, 233, 4352, 20013, 128512, 47]

theorem drawTab_prn (k : Nat) (h : k < 16) : prn (drawTab[k]?.getD 0) = true := by
  have : k = 0 ∨ k = 1 ∨ k = 2 ∨ k = 3 ∨ k = 4 ∨ k = 5 ∨ k = 6 ∨ k = 7 ∨ k = 8 ∨ k = 9 ∨ k = 10 ∨ k = 11 ∨ k = 12 ∨ k = 13 ∨ k = 14 ∨ k = 15 := by omega
  rcases this with rfl | rfl | rfl | rfl | rfl | rfl | rfl | rfl | rfl | rfl | rfl | rfl | rfl | rfl | rfl | rfl <;> exact prn_of (by decide) (by decide) (by decide)

theorem drawTab_cell (w : World) (k : Nat) (hk : k < 16) : (w.alloc (.cells (drawTab.map (Value.int .i64)).toArray 3)).cell? ⟨w.heap.size, k, none⟩ = some (.int .i64 (drawTab[k]?.getD 0)) := by
  have own := World.ownsRow_lit (base := w.heap.size) (e := 3) (size := 1) w (drawTab.map (Value.int .i64)).toArray 16 (Nat.le_refl _) (by decide) rfl
  rw [own.cellAt k (by omega)]
  have : k < drawTab.length := by simpa [drawTab] using hk
  simp [this]

set_option maxRecDepth 100000 in
set_option maxHeartbeats 1000000 in
theorem rune_any (base B : Nat) (a : Option Addr) (n cap : Nat) (zs : List Int) (w : World) (hl : Hid (zs.length = n)) (hn : n ≤ 1048576) (hc : Cur w base B a n cap zs) :
    Calls Tryd.prog 34 #[.pointer (some ⟨B, 0, none⟩)] w fun e w' => ∃ x : Int, e = .returned (.int .i64 x) ∧ prn x = true ∧ Cur w' base B a n cap zs ∧ w.grownBy w' (some B) := by
  have HC : Hid (Cur w base B a n cap zs) := hc
  clear hc
  go_enter Tryd.func34, Tryd.ntmps34
  go_wp2_with fail
  refine (below_any base B a n cap zs 12 _ hl hn HC.out (by omega) (by omega)).mono ?_
  rintro e w1 ⟨k, rfl, hk0, hk1, hc1, hg1⟩
  by_cases h9 : k < 9
  · have hc2 : Cur (w1.alloc (.cells (drawTab.map (Value.int .i64)).toArray 3)) base B a n cap zs := cur_kept hc1 (World.grownBy_alloc w1 _ none) (by simp) (fun k h => by cases h)
    have hcells := drawTab_cell w1
    have hB1 := hc1.lt
    have HH : Hid (_ ∧ _) := ⟨hc2, hcells⟩
    clear hc2 hcells
    go_wp2_with fail
    refine (below_any base B a n cap zs 16 _ hl hn HH.out.1 (by omega) (by omega)).mono ?_
    rintro e w2 ⟨j, rfl, hj0, hj1, hc3, hg3⟩
    obtain ⟨J, rfl⟩ := Int.eq_ofNat_of_zero_le hj0
    have hcell : w2.cell? ⟨w1.heap.size, J, none⟩ = some (.int .i64 (drawTab[J]?.getD 0)) := hg3.cell (HH.out.2 J (by omega)) (by simp; omega)
    have hgg : w.grownBy w2 (some B) := grownBy_trans hg1 (grownBy_trans (World.grownBy_alloc w1 _ (some B)) hg3)
    have hP := drawTab_prn J (by omega)
    obtain ⟨x, hx⟩ : ∃ x, x = drawTab[J]?.getD 0 := ⟨_, rfl⟩
    rw [← hx] at hcell hP
    have HP : Hid (prn x = true) := hP
    clear hx hP HH hg3
    go_wp2
    go_ret
    exact ⟨_, rfl, HP.out, hc3, hgg⟩
  · by_cases h10 : k = 9
    · subst h10
      go_wp2_with fail
      refine (below_any base B a n cap zs 94 _ hl hn hc1 (by omega) (by omega)).mono ?_
      rintro e w2 ⟨j, rfl, hj0, hj1, hc3, hg3⟩
      have hgg := grownBy_trans hg1 hg3
      go_wp2
      go_ret
      exact ⟨_, rfl, prn_of (by omega) (by omega) (by omega), hc3, hgg⟩
    · have b9 : (k == 9) = false := by simpa using h10
      by_cases h11 : k = 10
      · subst h11
        go_wp2_with fail
        refine (below_great base B a n cap zs 300 _ hl hn hc1 (by omega) (by omega)).mono ?_
        rintro e w2 ⟨j, rfl, hj0, hj1, hc3, hg3⟩
        have hgg := grownBy_trans hg1 hg3
        go_wp2
        go_ret
        exact ⟨_, rfl, prn_of (by omega) (by omega) (by omega), hc3, hgg⟩
      · have b10 : (k == 10) = false := by simpa using h11
        go_wp2_with fail
        refine (below_great base B a n cap zs 2000 _ hl hn hc1 (by omega) (by omega)).mono ?_
        rintro e w2 ⟨j, rfl, hj0, hj1, hc3, hg3⟩
        have hgg := grownBy_trans hg1 hg3
        go_wp2
        go_ret
        exact ⟨_, rfl, prn_of (by omega) (by omega) (by omega), hc3, hgg⟩

set_option maxRecDepth 100000 in
set_option maxHeartbeats 1000000 in
theorem runes_any (base B : Nat) (a : Option Addr) (n cap : Nat) (zs : List Int) (most : Nat) (w : World) (hl : Hid (zs.length = n)) (hn : n ≤ 1048576) (hc : Cur w base B a n cap zs) (hm : most ≤ 255) :
    Calls Tryd.prog 24 #[.pointer (some ⟨B, 0, none⟩), .int .i64 most] w fun e w' => ∃ (ys : List Int) (m g cp : Nat), m ≤ most ∧ ys.length = m ∧ (∀ y ∈ ys, prn y = true) ∧ e = .returned (.slice (some ⟨g, 0, none⟩) m cp) ∧
      w'.ownsRow (B + 1) 3 1 (.slice (some ⟨g, 0, none⟩) m cp) m (ys.map (Value.int .i64)) ∧ Below base w w' ∧ Cur w' base B a n cap zs := by
  obtain ⟨i0, hi, hz0, hz1, hz2⟩ := info_parts Tryd.infoI
  have hBw := hc.lt
  have hbB := hc.bB
  have hown0 := World.ownsRow_lit (base := B + 1) (e := 3) (size := 1) w #[] 0 (by omega) (Nat.zero_le _) rfl
  have hc0 : Cur (w.alloc (.cells #[] 3)) base B a n cap zs := cur_kept hc (World.grownBy_alloc w _ none) (by simp) (fun k h => by cases h)
  have hb0 : Below base w (w.alloc (.cells #[] 3)) := (Below.refl _ _).alloc (by omega) _
  have H0 : Hid (_ ∧ _ ∧ _) := ⟨hown0, hc0, hb0⟩
  clear hc hown0 hc0 hb0
  go_enter Tryd.func24, Tryd.ntmps24
  go_wp2_with fail
  refine (below_any base B a n cap zs _ _ hl hn H0.out.2.1 ?_ ?_).mono ?_
  · omega
  · omega
  rintro e w1 ⟨x, rfl, hx0, hx1, hc1, hg1⟩
  obtain ⟨m, rfl⟩ := Int.eq_ofNat_of_zero_le hx0
  have hmm : m ≤ most := by omega
  have hown1 := H0.out.1.kept hg1 (.inr (by simp [Value.ownBlock]; omega))
  have hb1 : Below base w w1 := H0.out.2.2.grown hg1 (by simp; omega) (fun k h => by cases h; exact hbB)
  have H1 : Hid (_ ∧ _ ∧ _) := ⟨hown1, hc1, hb1⟩
  clear hb1 hg1 hc1 hown1 H0
  go_wp2
  go_loopw [5, 6] (fun v i wr => ∃ (k g cp : Nat) (ys : List Int), k ≤ m ∧ v = .slice (some ⟨g, 0, none⟩) k cp ∧ i = .int .i64 ((m : Int) - (k : Int)) ∧ Hid (ys.length = k ∧ ∀ y ∈ ys, prn y = true) ∧ wr.ownsRow (B + 1) 3 1 (.slice (some ⟨g, 0, none⟩) k cp) k (ys.map (Value.int .i64)) ∧ Below base w wr ∧ Cur wr base B a n cap zs)
    (fun _ i _ => (intOf i).toNat)
  case atStart => exact ⟨0, _, 0, [], Nat.zero_le _, rfl, by simp, ⟨rfl, fun y hy => by cases hy⟩, H1.out.1, H1.out.2.2, H1.out.2.1⟩
  case round =>
    obtain ⟨k, g, cp, ys, hk, rfl, rfl, HY, hown, hbel, hcr⟩ := hrel
    by_cases hlt : k < m
    · have hlt' : 0 < (m : Int) - (k : Int) := by omega
      go_wp2_with fail
      refine (rune_any base B a n cap zs _ hl hn hcr).mono ?_
      rintro e w2 ⟨x, rfl, hpx, hc2, hg2⟩
      have hgl := hown.lt g rfl
      have hown2 := hown.kept hg2 (.inr (by simp [Value.ownBlock]; omega))
      have hB2 := hc2.lt
      have hbs := hbel.size
      have hgs := hg2.size
      have hbel2 : Below base w w2 := hbel.grown hg2 (by omega) (fun y h => by cases h; exact hbB)
      have HC2 : Hid (Cur w2 base B a n cap zs) := hc2
      have HPX : Hid (prn x = true) := hpx
      clear hown hg2 hcr hc2 hpx
      go_wp2_with (at_builtin; refine wpList_append_lies _ rfl _ _ 23 rfl (B + 1) 3 i0 (.int .i64 0) 1 8 Tryd.underlying23 hi hz0 hz1 hz2 rfl (by decide) _ k _ rfl (hown2.alloc _) ⟨_, 0, none⟩ 1 _ [.int .i64 x] rfl rfl ?c1 ?c2 (by omega) ?c3 ?c4 ?c5 _ rfl ?_)
      case c1 => exact cell_one_new _ _ _
      case c2 => intro u hu; simp at hu; subst hu; rfl
      case c3 => unfold maxLen; omega
      case c4 => omega
      case c5 => simp; omega
      intro gg cap1 w3 hown3 hgrow3 hat _
      have hbel3 : Below base w w3 := (hbel2.alloc (by omega) _).grown hgrow3 (by simp; omega) (fun y h => by cases h; show base ≤ g; omega)
      have hc3 : Cur w3 base B a n cap zs := cur_kept (cur_kept HC2.out (World.grownBy_alloc w2 _ none) (by simp) (fun k h => by cases h)) hgrow3 (by simp [Value.ownBlock]; omega) (fun y h => by cases h; show base ≤ g; omega)
      have hown4 : w3.ownsRow (B + 1) 3 1 (.slice (some ⟨gg, 0, none⟩) (k + 1) cap1) (k + 1) ((ys ++ [x]).map (Value.int .i64)) := by
        rw [List.map_append]
        exact hown3
      have HY2 : Hid ((ys ++ [x]).length = k + 1 ∧ ∀ y ∈ ys ++ [x], prn y = true) := ⟨by rw [List.length_append, HY.out.1]; rfl, fun y hy => by
        rcases List.mem_append.1 hy with h | h
        · exact HY.out.2 y h
        · rw [List.mem_singleton.1 h]; exact HPX.out⟩
      clear hown3 hgrow3 hown2
      go_wp2
      go_roundw
      case rel => exact ⟨k + 1, gg, cap1, ys ++ [x], by omega, rfl, by go_num, HY2, hown4, hbel3, hc3⟩
      case measure => simp [intOf]; omega
    · have e : k = m := by omega
      subst e
      go_wp2
      go_ret
      exact ⟨ys, k, g, cp, hmm, HY.out.1, HY.out.2, rfl, hown, hbel, hcr⟩

set_option maxHeartbeats 400000 in
theorem makeRunes_any (a : Option Addr) (n cap : Nat) (zs : List Int) (w : World) (hl : Hid (zs.length = n)) (hn : n ≤ 1048576) (hr : Rd w a zs) :
    Calls Tryd.prog 6 #[.slice a n cap] w fun e w' => ∃ (ys : List Int) (m g cp : Nat), m ≤ 20 ∧ ys.length = m ∧ (∀ y ∈ ys, prn y = true) ∧ e = .returned (.slice (some ⟨g, 0, none⟩) m cp) ∧
      w'.ownsRow w.heap.size 3 1 (.slice (some ⟨g, 0, none⟩) m cp) m (ys.map (Value.int .i64)) ∧ Below w.heap.size w w' := by
  go_enter Tryd.func6, Tryd.ntmps6
  go_wp2_with fail
  refine (new_any a n cap zs _ hl hn hr).mono ?_
  rintro e w1 ⟨rfl, hc1, hb1⟩
  go_wp2_with fail
  refine (runes_any w.heap.size w.heap.size a n cap zs 20 _ hl hn hc1 (by omega)).mono ?_
  rintro e w2 ⟨ys, m, g, cp, hm, hy, hyb, rfl, ho, hb2, _⟩
  have ho' := own_base ho (base' := w.heap.size) (by have := (ho.lt g rfl).1; omega)
  have HYB : Hid (∀ y ∈ ys, prn y = true) := hyb
  clear ho hyb
  go_wp2
  go_ret
  exact ⟨ys, m, g, cp, hm, hy, HYB.out, rfl, ho', hb1.trans hb2⟩

end Go.Proofs.YtofbfbandipjoaaDoor
