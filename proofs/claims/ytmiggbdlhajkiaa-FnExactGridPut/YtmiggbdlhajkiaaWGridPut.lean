/-
  GridPut of both sides; the law FnExactGridPut over the contracts of its two functions.
-/
import Derived.Test.YtmiggbdlhajkiaaGrFPut
import Derived.Test.YtmiggbdlhajkiaaGrSPz
import Derived.Test.YtmiggbdlhajkiaaGrSPa
import Derived.Test.YtmiggbdlhajkiaaGrSPb
import Derived.Test.YtmiggbdlhajkiaaGrSPc
import Derived.Test.YtmiggbdlhajkiaaGrSPd
import Derived.Test.YtmiggbdlhajkiaaGrMP
import Derived.Test.YtmiggbdlhajkiaaGrPq
import Derived.Test.YtmiggbdlhajkiaaGrY
import Derived.Test.YtmiggbdlhajkiaaLGridPut
namespace Go.Proofs.Ytmiggbdlhajkiaa
open Go.RowKit
set_option linter.unusedVariables false

theorem up_scr' (W : Nat) (zs : List Int) : up (-32) (scr 32 W zs) = scr 0 W (up (-32) zs) := by
  unfold up scr
  rw [List.map_append, List.map_drop, List.map_replicate]
  rfl

theorem clrM_in' {x y : Int} {zs : List Int} (hz : ∀ i, i < zs.length → -1 ≤ at0 zs i ∧ at0 zs i ≤ 1114111) : ∀ i, i < zs.length → -1 ≤ at0 (clrM x y zs) i ∧ at0 (clrM x y zs) i ≤ 1114111 := by
  intro i hi
  rw [clrM_at hi]
  split
  · omega
  · exact hz i hi

/-- Does the rune of width d go into the next row? -/
def brkG (X W d : Int) (wr : Bool) : Bool := wr || decide (W < X + d)
def putX (X W d : Int) (wr : Bool) : Int := if brkG X W d wr = true then 0 else X
def putY (X Y W H d : Int) (wr : Bool) : Int := if brkG X W d wr = true then clampG (Y + 1) H else Y
def putC (X Y W H d : Int) (wr : Bool) (zs : List Int) : List Int := if brkG X W d wr = true then (if Y = H - 1 then scr 32 W.toNat zs else zs) else zs
/-- A rune put into a right grid. -/
def putN (d : GrD) (r : Int) : GrD :=
  if wd r = 0 then d else
    let X1 := putX d.2.2.2.1 d.1 (wd r) d.2.2.2.2.2.1
    let Y1 := putY d.2.2.2.1 d.2.2.2.2.1 d.1 d.2.1 (wd r) d.2.2.2.2.2.1
    let z1 := putC d.2.2.2.1 d.2.2.2.2.1 d.1 d.2.1 (wd r) d.2.2.2.2.2.1 d.2.2.1
    (d.1, d.2.1, putZ (Y1 * d.1 + X1).toNat (wd r).toNat r (-1) (clrM (Y1 * d.1 + X1) (Y1 * d.1 + X1 + wd r) z1), (if X1 + wd r = d.1 then X1 + wd r - 1 else X1 + wd r), Y1, decide (X1 + wd r = d.1), ())
def putD (d : GrD) (r : Int) : GrD := ansG d (putN d r)

theorem wd_rune {r : Int} (h : wd r ≠ 0) : 32 ≤ r ∧ r ≤ 1114111 := by
  refine ⟨?_, (wd_in h).2⟩
  unfold wd at h
  split at h
  · rename_i hp
    unfold prn at hp
    simp only [Bool.and_eq_true, decide_eq_true_eq] at hp
    exact hp.2.1
  · exact absurd rfl h

/-- What both sides are told of a right grid and a rune of width d. -/
theorem put_facts {W H n : Nat} {X Y : Int} {wr : Bool} {zs : List Int} (d : Nat) (hd : d = 1 ∨ d = 2) (hg : gokB ((W : Int), (H : Int), zs, X, Y, wr, ()) = true) (hl : zs.length = n) :
    ∃ (X1 Y1 : Nat) (z1 : List Int), putX X W d wr = X1 ∧ putY X Y W H d wr = Y1 ∧ putC X Y W H d wr zs = z1 ∧ z1.length = n ∧ cellsB z1 W (W * H) = true ∧ X1 + d ≤ W ∧ Y1 < H ∧ (X1 : Int) = putX X W d wr ∧
      ((brkG X W d wr = true ∧ X1 = 0 ∧ clampG (Y + 1) H = (Y1 : Int) ∧ z1 = (if Y = (H : Int) - 1 then scr 32 W zs else zs)) ∨ (brkG X W d wr = false ∧ X = (X1 : Int) ∧ Y = (Y1 : Int) ∧ z1 = zs)) := by
  obtain ⟨W', H', e1, e2, g1, g2, g3, g4, g5, hlen, hcl, hcu⟩ := gok_parts hg
  obtain rfl : W = W' := by exact_mod_cast e1
  obtain rfl : H = H' := by exact_mod_cast e2
  obtain ⟨c1, c2, c3, c4, c5⟩ := cursB_iff.1 hcu
  have hWn : W ≤ zs.length := by rw [hlen]; exact Nat.le_mul_of_pos_right _ (by omega)
  cases hb : brkG X W d wr with
  | true =>
    have hc : 0 ≤ clampG (Y + 1) (H : Int) ∧ clampG (Y + 1) (H : Int) < H := by unfold clampG; omega
    refine ⟨0, (clampG (Y + 1) (H : Int)).toNat, _, ?_, ?_, rfl, ?_, ?_, by omega, by omega, ?_, .inl ⟨rfl, rfl, by omega, ?_⟩⟩
    · unfold putX; rw [if_pos hb]; rfl
    · unfold putY; rw [if_pos hb]; omega
    · unfold putC; rw [if_pos hb]; split
      · rw [Int.toNat_natCast, scr_len hWn]; exact hl
      · exact hl
    · unfold putC; rw [if_pos hb]; split
      · rw [Int.toNat_natCast]; exact scr_cells (by omega) g3 hlen hcl
      · exact hcl
    · unfold putX; rw [if_pos hb]; rfl
    · unfold putC; rw [if_pos hb, Int.toNat_natCast]
  | false =>
    have hf : wr = false ∧ X + d ≤ W := by
      unfold brkG at hb
      simp at hb
      exact ⟨hb.1, by omega⟩
    refine ⟨X.toNat, Y.toNat, zs, ?_, ?_, ?_, hl, hcl, by omega, by omega, ?_, .inr ⟨rfl, by omega, by omega, rfl⟩⟩
    · unfold putX; rw [if_neg (by rw [hb]; simp)]; omega
    · unfold putY; rw [if_neg (by rw [hb]; simp)]; omega
    · unfold putC; rw [if_neg (by rw [hb]; simp)]
    · unfold putX; rw [if_neg (by rw [hb]; simp)]; omega

theorem putN_zero {d : GrD} {r : Int} (h : wd r = 0) : putN d r = d := by unfold putN; rw [if_pos h]
theorem putN_yes {W H : Nat} {X Y : Int} {wr : Bool} {zs z1 : List Int} {r : Int} {d X1 Y1 : Nat} (h : wd r = d) (hd : d = 1 ∨ d = 2) (e1 : putX X W d wr = X1) (e2 : putY X Y W H d wr = Y1) (e3 : putC X Y W H d wr zs = z1) :
    putN ((W : Int), (H : Int), zs, X, Y, wr, ()) r = ((W : Int), (H : Int), putZ (Y1 * W + X1) d r (-1) (clrM ((Y1 * W + X1 : Nat) : Int) ((Y1 * W + X1 + d : Nat) : Int) z1), (if (X1 : Int) + d = W then (X1 : Int) + d - 1 else (X1 : Int) + d), (Y1 : Int), decide ((X1 : Int) + d = W), ()) := by
  unfold putN
  rw [if_neg (by rw [h]; omega), h]
  simp only
  rw [e1, e2, e3]
  have ea : (Y1 : Int) * (W : Int) + (X1 : Int) = ((Y1 * W + X1 : Nat) : Int) := by simp
  rw [ea, Int.toNat_natCast, Int.toNat_natCast]
  congr 1

theorem putN_1 (d : GrD) (r : Int) : (putN d r).1 = d.1 ∧ (putN d r).2.1 = d.2.1 := by
  unfold putN; split <;> exact ⟨rfl, rfl⟩

theorem putZ_in {a d : Nat} {r : Int} {zs : List Int} (hr : -1 ≤ r ∧ r ≤ 1114111) (hz : ∀ i, i < zs.length → -1 ≤ at0 zs i ∧ at0 zs i ≤ 1114111) (hd : d ≤ 2) (ha : a + d ≤ zs.length) : ∀ i, i < zs.length → -1 ≤ at0 (putZ a d r (-1) zs) i ∧ at0 (putZ a d r (-1) zs) i ≤ 1114111 := by
  intro i hi
  have hmem : at0 (putZ a d r (-1) zs) i ∈ putZ a d r (-1) zs := by
    unfold at0
    rw [List.getElem?_eq_getElem (by rw [putZ_len hd ha]; exact hi)]
    exact List.getElem_mem _
  generalize at0 (putZ a d r (-1) zs) i = v at hmem ⊢
  unfold putZ at hmem
  have hzm : ∀ x ∈ zs, -1 ≤ x ∧ x ≤ 1114111 := by
    intro x hx
    obtain ⟨j, hj, rfl⟩ := List.mem_iff_getElem.1 hx
    have := hz j hj
    unfold at0 at this
    rw [List.getElem?_eq_getElem hj] at this
    exact this
  rcases List.mem_append.1 hmem with h | h
  · exact hzm _ (List.mem_of_mem_take h)
  · rcases List.mem_append.1 h with h | h
    · have := List.mem_of_mem_take h
      simp at this
      rcases this with h | h <;> omega
    · exact hzm _ (List.mem_of_mem_drop h)

theorem put_sheet {W H n a d : Nat} {r : Int} {z1 : List Int} (hW : 1 ≤ W) (hl : z1.length = W * H) (hc : cellsB z1 W (W * H) = true) (h0 : 0 < z1.length) :
    up (-32) (putZ a d r (-1) (clrM (a : Int) ((a + d : Nat) : Int) z1)) = putZ a d (r - 32) (-33) (clrZ (-33) 0 (a : Int) ((a + d : Nat) : Int) (up (-32) z1)) := by
  rw [up_put, ← clr_same (paired_of hW hl hc), up_clr h0]

theorem half0 {W H : Nat} {z1 : List Int} (hW : 1 ≤ W) (hl : z1.length = W * H) (hc : cellsB z1 W (W * H) = true) (h0 : 0 < z1.length) : at0 (up (-32) z1) 0 ≠ -33 := by
  rw [up_at h0]
  intro h
  have := ((paired_of hW hl hc 0 h0).2 (by omega)).1
  omega

theorem implPut_any (x0 x1 x3 x4 : Int) (a : Option Addr) (n c : Nat) (x5 : Bool) (zs : List Int) (r : Int) (w : World) (hr : Reads (.sl .int) w [.slice a n c] zs) :
    Calls Try.prog 8 #[.agg #[.int .i64 x0, .int .i64 x1, .slice a n c, .int .i64 x3, .int .i64 x4, .bool x5], .int .i64 r] w fun e w' => ∃ o F, e = .returned (.agg o.toArray) ∧ Own shGrid w' w.heap.size o (putD (x0, x1, zs, x3, x4, x5, ()) r) F ∧ F.Nodup ∧ Below w.heap.size w w' := by
  have hl := (reads_ints hr).1
  obtain ⟨N, hN⟩ : ∃ N, N = putN (x0, x1, zs, x3, x4, x5, ()) r := ⟨_, rfl⟩
  have hN1 := putN_1 (x0, x1, zs, x3, x4, x5, ()) r
  rw [← hN] at hN1
  refine implGridPut_over x0 x1 x3 x4 a n c x5 zs r N.2.2.2.1 N.2.2.2.2.1 N.2.2.2.2.2.1 N.2.2.1 (putD (x0, x1, zs, x3, x4, x5, ()) r) ?_ w hr ?_ ?_
  · show ansG _ _ = ansG _ _
    congr 1
    rw [← hN]
    obtain ⟨a1, a2, a3, a4, a5, a6, _⟩ := N
    obtain ⟨h1, h2⟩ := hN1
    have h1' : a1 = x0 := h1
    have h2' : a2 = x1 := h2
    rw [h1', h2']
  · intro hg
    obtain ⟨W, H, rfl, rfl, g1, g2, g3, g4, g5, hlen, hcl, hcu⟩ := gok_parts hg
    have hd := wd_bd r
    by_cases h0 : wd r = 0
    · rw [hN, putN_zero h0]
      exact ⟨hl, fun i hi => cells_in hcl (by omega)⟩
    · obtain ⟨d, hdd⟩ : ∃ d : Nat, wd r = d := ⟨(wd r).toNat, by omega⟩
      have hd2 : d = 1 ∨ d = 2 := by omega
      obtain ⟨X1, Y1, z1, e1, e2, e3, hl1, hc1, f1, f2, _, _⟩ := put_facts d hd2 hg hl
      rw [hN, putN_yes hdd hd2 e1 e2 e3]
      have hr32 := wd_rune h0
      have hfit : Y1 * W + X1 + d ≤ n := by
        have h1 : (Y1 + 1) * W ≤ H * W := Nat.mul_le_mul_right _ (by omega)
        rw [Nat.add_mul, Nat.one_mul] at h1
        rw [← hl, hlen, Nat.mul_comm W H]; omega
      show (putZ _ _ _ _ _).length = n ∧ _
      refine ⟨by rw [putZ_len (by omega) (by rw [clrM_len]; omega), clrM_len]; exact hl1, fun i hi => ?_⟩
      refine putZ_in ⟨by omega, by omega⟩ (fun j hj => ?_) (by omega) (by rw [clrM_len]; omega) i (by rw [clrM_len]; omega)
      rw [clrM_len] at hj
      exact clrM_in' (fun q hq => cells_in hc1 (by omega)) j hj
  · intro hg w' B p g hs
    obtain ⟨W, H, rfl, rfl, g1, g2, g3, g4, g5, hlen, hcl, hcu⟩ := gok_parts hg
    obtain ⟨c1, c2, c3, c4, c5⟩ := cursB_iff.1 hcu
    have hWn : W ≤ n := by rw [← hl, hlen]; exact Nat.le_mul_of_pos_right _ (by omega)
    have hd := wd_bd r
    by_cases h0 : wd r = 0
    · rw [hN, putN_zero h0]
      exact put_zero p g n B W H x3 x4 r x5 (up (-32) zs) w' hs (by omega) (by omega) hWn (by omega) (by omega) (by omega) c1 c2 c3 c4 h0
    · obtain ⟨d, hdd⟩ : ∃ d : Nat, wd r = d := ⟨(wd r).toNat, by omega⟩
      have hd2 : d = 1 ∨ d = 2 := by omega
      obtain ⟨X1, Y1, z1, e1, e2, e3, hl1, hc1, f1, f2, _, hb⟩ := put_facts d hd2 hg hl
      rw [hN, putN_yes hdd hd2 e1 e2 e3]
      have hr32 := wd_rune h0
      have hl1' : z1.length = W * H := by rw [hl1, ← hl, hlen]
      have hpos : 0 < z1.length := by rw [hl1]; omega
      have hfit : Y1 * W + X1 + d ≤ n := by
        have h1 : (Y1 + 1) * W ≤ H * W := Nat.mul_le_mul_right _ (by omega)
        rw [Nat.add_mul, Nat.one_mul] at h1
        rw [← hl, hlen, Nat.mul_comm W H]; omega
      have hb' : ((x5 = true ∨ (x5 = false ∧ (W : Int) < x3 + d)) ∧ X1 = 0 ∧ clampG (x4 + 1) H = (Y1 : Int) ∧ up (-32) z1 = (if x4 = (H : Int) - 1 then scr 0 W (up (-32) zs) else up (-32) zs)) ∨ (x5 = false ∧ x3 + d ≤ (W : Int) ∧ x3 = (X1 : Int) ∧ x4 = (Y1 : Int) ∧ up (-32) z1 = up (-32) zs) := by
        rcases hb with ⟨q1, q2, q3, q4⟩ | ⟨q1, q2, q3, q4⟩
        · left
          refine ⟨?_, q2, q3, ?_⟩
          · unfold brkG at q1
            cases x5 with
            | true => exact .inl rfl
            | false => right; simpa using q1
          · rw [q4]; split
            · exact up_scr' W zs
            · rfl
        · right
          unfold brkG at q1
          simp at q1
          exact ⟨q1.1, by omega, q2, q3, by rw [q4]⟩
      show Calls _ _ _ _ _
      rw [put_sheet (n := n) (by omega) hl1' hc1 hpos]
      rcases hd2 with rfl | rfl
      · exact put_1 p g n B W H x3 x4 r x5 (up (-32) zs) w' hs (by omega) (by omega) hWn (by omega) (by omega) (by omega) c1 c2 c3 c4 hdd ⟨by omega, by omega⟩ X1 Y1 (up (-32) z1) _ _ rfl (by split <;> simp_all) (half0 (by omega) hl1' hc1 hpos) hfit ⟨by omega, by omega⟩ hb'
      · exact put_2 p g n B W H x3 x4 r x5 (up (-32) zs) w' hs (by omega) (by omega) hWn (by omega) (by omega) (by omega) c1 c2 c3 c4 hdd ⟨by omega, by omega⟩ X1 Y1 (up (-32) z1) _ _ rfl (by split <;> simp_all) (half0 (by omega) hl1' hc1 hpos) hfit ⟨by omega, by omega⟩ hb'

theorem specPut_any (x0 x1 x3 x4 : Int) (a : Option Addr) (n c : Nat) (x5 : Bool) (zs : List Int) (r : Int) (w : World) (hr : Reads (.sl .int) w [.slice a n c] zs) :
    Calls Try.prog 6 #[.agg #[.int .i64 x0, .int .i64 x1, .slice a n c, .int .i64 x3, .int .i64 x4, .bool x5], .int .i64 r] w fun e w' => ∃ o F, e = .returned (.agg o.toArray) ∧ Own shGrid w' w.heap.size o (putD (x0, x1, zs, x3, x4, x5, ()) r) F ∧ F.Nodup ∧ Below w.heap.size w w' := by
  have hl := (reads_ints hr).1
  cases hg : gokB (x0, x1, zs, x3, x4, x5, ()) with
  | false => exact specPut_no x0 x1 x3 x4 a n c x5 zs r w hr hg _ (ansG_no hg)
  | true =>
    obtain ⟨W, H, rfl, rfl, g1, g2, g3, g4, g5, hlen, hcl, hcu⟩ := gok_parts hg
    obtain ⟨c1, c2, c3, c4, c5⟩ := cursB_iff.1 hcu
    have hd := wd_bd r
    by_cases h0 : wd r = 0
    · exact specPut_zero W H x3 x4 a n c x5 zs r h0 w hr hg _ (by unfold putD; rw [ansG_yes hg, putN_zero h0])
    · obtain ⟨d, hdd⟩ : ∃ d : Nat, wd r = d := ⟨(wd r).toNat, by omega⟩
      have hd2 : d = 1 ∨ d = 2 := by omega
      obtain ⟨X1, Y1, z1, e1, e2, e3, hl1, hc1, f1, f2, _, hb⟩ := put_facts d hd2 hg hl
      have hR : putD ((W : Int), (H : Int), zs, x3, x4, x5, ()) r = putN ((W : Int), (H : Int), zs, x3, x4, x5, ()) r := ansG_yes hg
      have hR2 := hR.trans (putN_yes hdd hd2 e1 e2 e3)
      have hr32 := wd_rune h0
      have hXN : ((X1 : Int) + d = W ∧ (if (X1 : Int) + d = W then (X1 : Int) + d - 1 else (X1 : Int) + d) = (W : Int) - 1 ∧ decide ((X1 : Int) + d = W) = true) ∨ ((X1 : Int) + d < W ∧ (if (X1 : Int) + d = W then (X1 : Int) + d - 1 else (X1 : Int) + d) = (X1 : Int) + d ∧ decide ((X1 : Int) + d = W) = false) := by
        by_cases h : (X1 : Int) + d = W
        · left; rw [if_pos h]; exact ⟨h, by omega, decide_eq_true h⟩
        · right; rw [if_neg h]; exact ⟨by omega, rfl, decide_eq_false h⟩
      have hbr : (brkG x3 W d x5 = true → x5 = true ∨ (x5 = false ∧ (W : Int) < x3 + d)) ∧ (brkG x3 W d x5 = false → x5 = false ∧ x3 + d ≤ W) := by
        unfold brkG
        cases x5 <;> simp
      have ht : (W : Int).toNat = W := Int.toNat_natCast W
      have ht2 : (H : Int).toNat = H := Int.toNat_natCast H
      rcases hd2 with rfl | rfl
      · refine specPut_1 W H x3 x4 a n c x5 zs r hdd ⟨by omega, by omega⟩ X1 Y1 z1 _ _ (Y1 * W + X1) (by rw [ht]) (by omega) (by omega) ⟨by rw [ht, ht2]; exact hc1, hl1⟩ hXN ?_ w hr hg _ hR2
        rcases hb with ⟨q1, q2, q3, q4⟩ | ⟨q1, q2, q3, q4⟩
        · left
          refine ⟨?_, q2, q3.symm, by rw [ht]; exact q4⟩
          rcases hbr.1 q1 with h | ⟨_, h⟩
          · exact .inl h
          · exfalso; omega
        · exact .inr ⟨(hbr.2 q1).1, trivial, q2, q3, q4⟩
      · rcases hb with ⟨q1, q2, q3, q4⟩ | ⟨q1, q2, q3, q4⟩
        · rcases hbr.1 q1 with h | ⟨h1, h⟩
          · refine specPut_2w W H x3 x4 a n c x5 zs r hdd ⟨by omega, by omega⟩ X1 Y1 z1 _ _ (Y1 * W + X1) (by rw [ht]) (by omega) (by omega) ⟨by rw [ht, ht2]; exact hc1, hl1⟩ hXN ?_ w hr hg _ hR2
            exact ⟨h, q2, q3.symm, by rw [ht]; exact q4⟩
          · refine specPut_2e W H x3 x4 a n c x5 zs r hdd ⟨by omega, by omega⟩ X1 Y1 z1 _ _ (Y1 * W + X1) (by rw [ht]) (by omega) (by omega) ⟨by rw [ht, ht2]; exact hc1, hl1⟩ hXN ?_ w hr hg _ hR2
            exact ⟨h1, by omega, q2, q3.symm, by rw [ht]; exact q4⟩
        · refine specPut_2n W H x3 x4 a n c x5 zs r hdd ⟨by omega, by omega⟩ X1 Y1 z1 _ _ (Y1 * W + X1) (by rw [ht]) (by omega) (by omega) ⟨by rw [ht, ht2]; exact hc1, hl1⟩ hXN ?_ w hr hg _ hR2
          exact ⟨(hbr.2 q1).1, by have := (hbr.2 q1).2; omega, q2, q3, q4⟩

theorem putD_len (d : GrD) (r : Int) : (putD d r).2.2.1.length ≤ 8000 := ans_len' fun hg => by
  obtain ⟨x0, x1, zs, x3, x4, x5, _⟩ := d
  obtain ⟨W, H, rfl, rfl, g1, g2, g3, g4, g5, hlen, hcl, hcu⟩ := gok_parts hg
  have hd := wd_bd r
  by_cases h0 : wd r = 0
  · rw [putN_zero h0]
  · obtain ⟨d, hdd⟩ : ∃ d : Nat, wd r = d := ⟨(wd r).toNat, by omega⟩
    have hd2 : d = 1 ∨ d = 2 := by omega
    obtain ⟨X1, Y1, z1, e1, e2, e3, hl1, hc1, f1, f2, _, hb⟩ := put_facts d hd2 hg rfl
    rw [putN_yes hdd hd2 e1 e2 e3]
    have hfit : Y1 * W + X1 + d ≤ zs.length := by
      have h1 : (Y1 + 1) * W ≤ H * W := Nat.mul_le_mul_right _ (by omega)
      rw [Nat.add_mul, Nat.one_mul] at h1
      rw [hlen, Nat.mul_comm W H]; omega
    show (putZ _ _ _ _ _).length = zs.length
    rw [putZ_len (by omega) (by rw [clrM_len]; omega), clrM_len]; exact hl1

theorem implPut_ok (c : List Value) (d : shGrid.D) (r : Int) (w : World) (h : Reads shGrid w c d) :
    Calls Try.prog 8 #[.agg c.toArray, .int .i64 r] w fun e w' => ∃ o F, e = .returned (.agg o.toArray) ∧ Own shGrid w' w.heap.size o (putD d r) F ∧ F.Nodup ∧ Below w.heap.size w w' := by
  obtain ⟨a, n, cc, rfl, hr⟩ := open_Grid h
  exact implPut_any _ _ _ _ a n cc _ _ r w hr
theorem specPut_ok (c : List Value) (d : shGrid.D) (r : Int) (w : World) (h : Reads shGrid w c d) :
    Calls Try.prog 6 #[.agg c.toArray, .int .i64 r] w fun e w' => ∃ o F, e = .returned (.agg o.toArray) ∧ Own shGrid w' w.heap.size o (putD d r) F ∧ F.Nodup ∧ Below w.heap.size w w' := by
  obtain ⟨a, n, cc, rfl, hr⟩ := open_Grid h
  exact specPut_any _ _ _ _ a n cc _ _ r w hr

theorem gridPut_law (cs : List Value) (d : shGrid.D) (r : Int) (w : World) (hr : Reads shGrid w cs d) :
    Calls Try.prog 3 #[.agg cs.toArray, .int .i64 r] w fun e w' => e = .returned (.bool true) ∧ Below w.heap.size w w' :=
  have hs : shGrid.sz (putD d r) ≤ 1048576 := sz_ans' (putD_len d r)
  gridPut_over cs d r (putD d r) w hr hs (cntG _ hs) (cntG d)
    (fun w' c G h _ => (specPut_ok c d r w' h.reads).mono fun e w'' ⟨o, F, he, ho, _, hb⟩ => ⟨o, he, ho.reads, hb⟩)
    (fun w' c G h _ => (implPut_ok c d r w' h.reads).mono fun e w'' ⟨o, F, he, ho, hn, hb⟩ => ⟨o, F, he, ho, hn, hb⟩)
end Go.Proofs.Ytmiggbdlhajkiaa
