/-
  GridRow, the program's.
-/
import Derived.Test.YtadnboknickfkaaDoorGrG
import Derived.Test.YtadnboknickfkaaDoorGrL
import Derived.Test.YtadnboknickfkaaDoorShelf
namespace Go.Proofs.YtadnboknickfkaaDoor
open Go.RowKit
set_option linter.unusedVariables false
set_option linter.unusedSimpArgs false

theorem rowAt_rd {w : World} {b off n : Nat} {zs : List Int} {W y : Nat} (hl : zs.length = n) (hb : b < w.heap.size) (hc : ∀ i, i < zs.length → w.cell? ⟨b, off + i, none⟩ = some (.int .i64 (zs[i]?.getD 0))) (h : (y + 1) * W ≤ n) :
    RdI w (some ⟨b, off + y * W, none⟩) (rowAt zs W y) := by
  refine .inr ⟨b, off + y * W, rfl, hb, fun i hi => ?_⟩
  have hi' : i < W := by rw [rowAt_len (by omega)] at hi; exact hi
  have h1 : (y + 1) * W = y * W + W := by rw [Nat.add_mul, Nat.one_mul]
  have h2 : y * W + i < zs.length := by omega
  rw [Nat.add_assoc, hc (y * W + i) h2]
  congr 2
  have := rowAt_at (c := zs) (W := W) (y := y) hi'
  unfold at0 at this
  exact this.symm

theorem row_cells {zs : List Int} {W H y : Nat} (hcl : cellsB zs W (W * H) = true) (hl : zs.length = W * H) (hy : y < H) : ∀ x ∈ rowAt zs W y, x = -1 ∨ rb x ≠ [] := by
  intro x hx
  obtain ⟨i, hi, rfl⟩ := List.getElem_of_mem hx
  have h3 : (y + 1) * W ≤ H * W := Nat.mul_le_mul_right _ hy
  rw [Nat.mul_comm H W] at h3
  have hi' : i < W := by rw [rowAt_len (by omega)] at hi; exact hi
  have h1 : (y + 1) * W = y * W + W := by rw [Nat.add_mul, Nat.one_mul]
  have h2 := cell_rb (cellsB_lt hcl (show y * W + i < W * H by omega))
  rw [← rowAt_at hi'] at h2
  unfold at0 at h2
  simpa [hi] using h2

theorem tx_size (l : List Int) : (strOfNums (tx l)).size ≤ 4 * l.length := by
  have h1 : (strOfNums (tx l)).size = (tx l).length := by rw [strOfNums_size]
  rw [h1, ← txt_all]; exact txt_len l _

set_option maxRecDepth 100000 in
set_option maxHeartbeats 4000000 in
theorem implRow_any (x0 x1 x3 x4 : Int) (a : Option Addr) (n c : Nat) (x5 : Bool) (zs : List Int) (y : Int) (w : World) (hr : Reads (.sl .int) w [.slice a n c] zs) :
    Calls Tryd.prog 8 #[.agg #[.int .i64 x0, .int .i64 x1, .slice a n c, .int .i64 x3, .int .i64 x4, .bool x5], .int .i64 y] w fun e w' => e = .returned (.string (rowA (x0, x1, zs, x3, x4, x5, ()) y)) ∧ Below w.heap.size w w' := by
  obtain ⟨hl, hrd, hc, hm⟩ := reads_ints hr
  have HM : Hid (c ≤ maxLen) := hm
  unfold maxLen at hm
  have HR : Hid (Reads (.sl .int) w [.slice a n c] zs) := hr
  have HR2 : Hid (RdI w a zs ∧ zs.length = n) := ⟨hrd, hl⟩
  obtain ⟨W0, hW0⟩ : ∃ W0, W0 = w.alloc (.cells #[.int .i64 x0, .int .i64 x1, .slice a n c, .int .i64 x3, .int .i64 x4, .bool x5] 27) := ⟨_, rfl⟩
  have bW0 : Below w.heap.size w W0 := by rw [hW0]; exact (Below.refl _ _).alloc (Nat.le_refl _) _
  have hbox : W0.heap[w.heap.size]? = some (.cells #[.int .i64 x0, .int .i64 x1, .slice a n c, .int .i64 x3, .int .i64 x4, .bool x5] 27 (0, 0)) := by rw [hW0]; exact heap_alloc_new w _
  have zW0 : W0.heap.size = w.heap.size + 1 := by rw [hW0]; simp
  have HW0 : Hid (W0 = _) := hW0
  have HBX : Hid (∀ w', Below W0.heap.size W0 w' → w'.heap[w.heap.size]? = some (.cells #[.int .i64 x0, .int .i64 x1, .slice a n c, .int .i64 x3, .int .i64 x4, .bool x5] 27 (0, 0))) := fun w' h' => (h'.block _ (by omega)).trans hbox
  have HB0 : Hid (Below w.heap.size w W0) := bW0
  clear hW0 hbox zW0
  have qg : Hid (∀ b, gokB (x0, x1, zs, x3, x4, x5, ()) = b → Calls Tryd.prog 15 #[.agg #[.int .i64 x0, .int .i64 x1, .slice a n c, .int .i64 x3, .int .i64 x4, .bool x5]] W0 fun e w'' => e = .returned (.bool b) ∧ Below W0.heap.size W0 w'') := fun b hb => by rw [← hb]; exact gok_any x0 x1 x3 x4 a n c x5 zs W0 (hr.later bW0)
  have qp : Hid (∀ w' b, placeB x0 x1 0 y = b → Calls Tryd.prog 23 #[.agg #[.int .i64 x0, .int .i64 x1, .slice a n c, .int .i64 x3, .int .i64 x4, .bool x5], .int .i64 0, .int .i64 y] w' fun e w'' => e = .returned (.bool b) ∧ Below w'.heap.size w' w'') := fun w' b hb => by rw [← hb]; exact place_any x0 x1 x3 x4 a n c x5 0 y w'
  clear hr hrd hl bW0
  by_cases hg : gokB (x0, x1, zs, x3, x4, x5, ()) = true
  rotate_left
  · have HG : Hid (gokB (x0, x1, zs, x3, x4, x5, ()) = false) := by show _ = _; simpa using hg
    have E : Hid (rowA (x0, x1, zs, x3, x4, x5, ()) y = ByteArray.empty) := rowA_no (.inl HG.out)
    clear hg
    go_enter Tryd.func8, Tryd.ntmps8
    go_wp2_with fail
    rw [← HW0.out]
    refine (qg.out false HG.out).mono ?_
    rintro e w1 ⟨rfl, hb1⟩
    go_wp2
    go_ret
    exact ⟨by rw [E.out]; rfl, HB0.out.trans (hb1.mono HB0.out.size)⟩
  have HG : Hid (gokB (x0, x1, zs, x3, x4, x5, ()) = true) := hg
  clear hg
  by_cases hp : placeB x0 x1 0 y = true
  rotate_left
  · have HP : Hid (placeB x0 x1 0 y = false) := by show _ = _; simpa using hp
    have E : Hid (rowA (x0, x1, zs, x3, x4, x5, ()) y = ByteArray.empty) := by
      obtain ⟨W, H, h1, h2, g1, g2, g3, g4, g5, _, _, _⟩ := gok_parts HG.out
      refine rowA_no (.inr ?_)
      show y < 0 ∨ x1 ≤ y
      have h3 := HP.out
      unfold placeB at h3
      by_cases k1 : y < 0
      · exact .inl k1
      · by_cases k2 : x1 ≤ y
        · exact .inr k2
        · exfalso
          rw [decide_eq_true (p := (0 : Int) ≤ 0) (by omega), decide_eq_true (p := 0 < x0) (by omega), decide_eq_true (p := 0 ≤ y) (by omega), decide_eq_true (p := y < x1) (by omega)] at h3
          simp at h3
    clear hp
    go_enter Tryd.func8, Tryd.ntmps8
    go_wp2_with fail
    rw [← HW0.out]
    refine (qg.out true HG.out).mono ?_
    rintro e w1 ⟨rfl, hb1⟩
    have s1 : Hid (Below W0.heap.size W0 w1) := hb1
    have i1 := HBX.out w1 hb1
    have y0 : w1.cell? ⟨w.heap.size, 0, none⟩ = some (.int .i64 x0) := box_cell i1 rfl
    have y1 : w1.cell? ⟨w.heap.size, 1, none⟩ = some (.int .i64 x1) := box_cell i1 rfl
    have y2 : w1.cell? ⟨w.heap.size, 2, none⟩ = some (.slice a n c) := box_cell i1 rfl
    have y3 : w1.cell? ⟨w.heap.size, 3, none⟩ = some (.int .i64 x3) := box_cell i1 rfl
    have y4 : w1.cell? ⟨w.heap.size, 4, none⟩ = some (.int .i64 x4) := box_cell i1 rfl
    have y5 : w1.cell? ⟨w.heap.size, 5, none⟩ = some (.bool x5) := box_cell i1 rfl
    clear hb1
    go_wp2_with fail
    refine (qp.out _ false HP.out).mono ?_
    rintro e w2 ⟨rfl, hb2⟩
    go_wp2
    go_ret
    exact ⟨by rw [E.out]; rfl, HB0.out.trans ((s1.out.trans (hb2.mono s1.out.size)).mono HB0.out.size)⟩
  · have HP : Hid (placeB x0 x1 0 y = true) := hp
    have hyb : 0 ≤ y ∧ y < x1 := by
      unfold placeB at hp
      simp at hp; omega
    clear hp
    obtain ⟨W, H, rfl, rfl, g1, g2, g3, g4, g5, hlen, hcl, hcu⟩ := gok_parts HG.out
    obtain ⟨Y, rfl⟩ := Int.eq_ofNat_of_zero_le hyb.1
    have hYH : Y < H := by omega
    have hnW : n = W * H := by have h1 := HR2.out.2; have h2 : zs.length = W * H := hlen; omega
    have h3 : (Y + 1) * W ≤ H * W := Nat.mul_le_mul_right _ hYH
    have h4 : (Y + 1) * W = Y * W + W := by rw [Nat.add_mul, Nat.one_mul]
    have h5 : H * W = n := by rw [hnW, Nat.mul_comm]
    have hne : zs ≠ [] := by intro e; have h1 := HR2.out.2; rw [e] at h1; simp at h1; omega
    obtain ⟨b, off, rfl, hb, hcell⟩ := HR2.out.1.resolve_left hne
    obtain ⟨p, hpp⟩ : ∃ p, p = Y * W := ⟨_, rfl⟩
    have hpn : p + W ≤ n := by omega
    have hrow : RdI w (some ⟨b, off + p, none⟩) (rowAt zs W Y) := by rw [hpp]; exact rowAt_rd HR2.out.2 hb hcell (by omega)
    have hrl : (rowAt zs W Y).length = W := rowAt_len (by have := HR2.out.2; omega)
    have E : Hid (rowA ((W : Int), (H : Int), zs, x3, x4, x5, ()) (Y : Int) = rowTx (rowAt zs W Y)) := by
      show _ = _
      rw [rowA_yes HG.out (show (0 : Int) ≤ (Y : Int) by omega) (show (Y : Int) < (H : Int) by omega)]
      show rowTx (rowAt zs (W : Int).toNat (Y : Int).toNat) = _
      rw [Int.toNat_natCast, Int.toNat_natCast]
    obtain ⟨S, hS⟩ : ∃ S, S = strOfNums (tx (rowAt zs W Y)) := ⟨_, rfl⟩
    obtain ⟨R, hR⟩ : ∃ R, R = rowTx (rowAt zs W Y) := ⟨_, rfl⟩
    have qr : Hid (∀ w', Calls Tryd.prog 26 #[.agg #[.int .i64 W, .int .i64 H, .slice (some ⟨b, off, none⟩) n c, .int .i64 x3, .int .i64 x4, .bool x5], .int .i64 Y] w' fun e w'' => e = .returned (.slice (some ⟨b, off + p, none⟩) W (c - p)) ∧ Below w'.heap.size w' w'') := fun w' =>
      rowOf_any W Y b off n c p H x3 x4 x5 w' hpp (by omega) (by omega) (by omega) hpn hc HM.out
    have qt : Hid (∀ w', Below w.heap.size w w' → Calls Tryd.prog 25 #[.slice (some ⟨b, off + p, none⟩) W (c - p)] w' fun e w'' => e = .returned (.string S) ∧ Below w'.heap.size w' w'') := fun w' hw => by
      have := implText_any (some ⟨b, off + p, none⟩) W (c - p) (rowAt zs W Y) w' hrl (hrow.later hw) (by omega)
      have e9 : txt (rowAt zs W Y) W = tx (rowAt zs W Y) := by have h9 := txt_all (rowAt zs W Y); rw [hrl] at h9; exact h9
      rw [e9, ← hS] at this
      exact this
    have qc : Hid (∀ w', Calls Tryd.prog 24 #[.string S, .string ⟨#[32]⟩] w' fun e w'' => e = .returned (.string R) ∧ w'' = w') := fun w' => by
      have := Tryd.strings_TrimRight_one S 32 (by decide) w' (by have h9 := tx_size (rowAt zs W Y); rw [← hS, hrl] at h9; omega)
      rw [hS, trim_row _ (row_cells hcl hlen hYH), ← hR] at this
      rw [hS]; exact this
    rw [← hR] at E
    clear hS hR hrow hrl hcell hne h3 h4 h5 hnW hpp hcl hcu hlen
    go_enter Tryd.func8, Tryd.ntmps8
    go_wp2_with fail
    rw [← HW0.out]
    refine (qg.out true HG.out).mono ?_
    rintro e w1 ⟨rfl, hb1⟩
    have s1 : Hid (Below W0.heap.size W0 w1) := hb1
    have i1 := HBX.out w1 hb1
    have y0 : w1.cell? ⟨w.heap.size, 0, none⟩ = some (.int .i64 W) := box_cell i1 rfl
    have y1 : w1.cell? ⟨w.heap.size, 1, none⟩ = some (.int .i64 H) := box_cell i1 rfl
    have y2 : w1.cell? ⟨w.heap.size, 2, none⟩ = some (.slice (some ⟨b, off, none⟩) n c) := box_cell i1 rfl
    have y3 : w1.cell? ⟨w.heap.size, 3, none⟩ = some (.int .i64 x3) := box_cell i1 rfl
    have y4 : w1.cell? ⟨w.heap.size, 4, none⟩ = some (.int .i64 x4) := box_cell i1 rfl
    have y5 : w1.cell? ⟨w.heap.size, 5, none⟩ = some (.bool x5) := box_cell i1 rfl
    clear hb1
    go_wp2_with fail
    refine (qp.out _ true HP.out).mono ?_
    rintro e w2 ⟨rfl, hb2⟩
    have s2 : Hid (Below W0.heap.size W0 w2) := s1.out.trans (hb2.mono s1.out.size)
    have i2 := HBX.out w2 s2.out
    clear hb2 y0 y1 y2 y3 y4 y5
    have y0 : w2.cell? ⟨w.heap.size, 0, none⟩ = some (.int .i64 W) := box_cell i2 rfl
    have y1 : w2.cell? ⟨w.heap.size, 1, none⟩ = some (.int .i64 H) := box_cell i2 rfl
    have y2 : w2.cell? ⟨w.heap.size, 2, none⟩ = some (.slice (some ⟨b, off, none⟩) n c) := box_cell i2 rfl
    have y3 : w2.cell? ⟨w.heap.size, 3, none⟩ = some (.int .i64 x3) := box_cell i2 rfl
    have y4 : w2.cell? ⟨w.heap.size, 4, none⟩ = some (.int .i64 x4) := box_cell i2 rfl
    have y5 : w2.cell? ⟨w.heap.size, 5, none⟩ = some (.bool x5) := box_cell i2 rfl
    go_wp2_with fail
    refine (qr.out _).mono ?_
    rintro e w3 ⟨rfl, hb3⟩
    have s3 : Hid (Below W0.heap.size W0 w3) := s2.out.trans (hb3.mono s2.out.size)
    clear hb3 y0 y1 y2 y3 y4 y5
    go_wp2_with fail
    refine (qt.out _ (HB0.out.trans (s3.out.mono HB0.out.size))).mono ?_
    rintro e w4 ⟨rfl, hb4⟩
    have s4 : Hid (Below W0.heap.size W0 w4) := s3.out.trans (hb4.mono s3.out.size)
    clear hb4
    go_wp2_with fail
    refine (qc.out _).mono ?_
    rintro e w5 ⟨rfl, rfl⟩
    go_wp2
    go_ret
    exact ⟨by rw [E.out]; rfl, HB0.out.trans (s4.out.mono HB0.out.size)⟩

end Go.Proofs.YtadnboknickfkaaDoor
