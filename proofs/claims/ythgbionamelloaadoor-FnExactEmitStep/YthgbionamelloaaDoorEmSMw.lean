/-
  Moving the cursor: EmitStep of the model, at the edge. By program (emsmgen.py).
-/
import Derived.Test.YthgbionamelloaaDoorEmSM
namespace Go.Proofs.YthgbionamelloaaDoor
open Go.RowKit
set_option linter.unusedVariables false
set_option linter.unusedSimpArgs false
set_option maxRecDepth 100000

set_option maxHeartbeats 8000000 in
theorem specStep_wrap (x0 x1 x3 x4 : Int) (a : Option Addr) (n c : Nat) (zs : List Int) (x : Int) (w : World) (hr : Reads (.sl .int) w [.slice a n c] zs) (hok : stepOk (x0, x1, zs, x3, x4, true, ()) x x4 = true) (hx : 0 ≤ x ∧ x < 200 ∧ 0 ≤ x4 ∧ x4 < 200) (hX : 0 ≤ x3 ∧ x3 < 200) :
    Calls Tryd.prog 5 #[.agg #[.int .i64 x0, .int .i64 x1, .slice a n c, .int .i64 x3, .int .i64 x4, .bool true], .int .i64 x, .int .i64 x4] w fun e w' => ∃ v, e = .returned (.tuple #[v, .bool (stepOk (x0, x1, zs, x3, x4, true, ()) x x4)]) ∧ Txt w' w.heap.size v (stepA (x0, x1, zs, x3, x4, true, ()) x x4) ∧ Below w.heap.size w w' := by
  have ES : Hid (stepOk (x0, x1, zs, x3, x4, true, ()) x x4 = true) := hok
  have EA : Hid (stepA (x0, x1, zs, x3, x4, true, ()) x x4 = stepM x3 true false x x4) := by
    show _ = _
    rw [stepA_yes hok]
    have h9 := stepM_ok (X := x3) (Y := x4) (wr := true) hx hX
    rw [show decide (x4 = x4) = true by simp] at h9
    exact h9.symm
  have hgp : gokB (x0, x1, zs, x3, x4, true, ()) = true ∧ placeB x0 x1 x x4 = true := by unfold stepOk at hok; simpa using hok
  have HG : Hid (gokB (x0, x1, zs, x3, x4, true, ()) = true) := hgp.1
  have hp := placeB_iff.1 hgp.2
  have d1 : decide (x < 0) = false := decide_eq_false (by omega)
  have d2 : decide (x0 ≤ x) = false := decide_eq_false (by omega)
  have d3 : decide (x4 < 0) = false := decide_eq_false (by omega)
  have d4 : decide (x1 ≤ x4) = false := decide_eq_false (by omega)
  have dy : (x4 == x4) = true := by simp
  obtain ⟨D, hD⟩ : ∃ D, D = x3 - x := ⟨_, rfl⟩
  obtain ⟨M, hM⟩ : ∃ M, M = x - x3 := ⟨_, rfl⟩
  have wd : IntKind.i64.wrap (x3 - x) = D := by rw [hD]; simp [IntKind.wrap, IntKind.bits, IntKind.signed]; omega
  have wm : IntKind.i64.wrap (x - x3) = M := by rw [hM]; simp [IntKind.wrap, IntKind.bits, IntKind.signed]; omega
  obtain ⟨A, hA⟩ : ∃ A, A = numT D := ⟨_, rfl⟩
  obtain ⟨E, hE⟩ : ∃ E, E = numT M := ⟨_, rfl⟩
  have sA : A.size ≤ 5 := by rw [hA]; exact numT_size (by omega)
  have sE : E.size ≤ 5 := by rw [hE]; exact numT_size (by omega)
  have qA : Hid (∀ w', Calls Tryd.prog 17 #[.int .i64 D] w' fun e w'' => e = .returned (.string A) ∧ Below w'.heap.size w' w'') := fun w' => by rw [hA]; exact specNumT_any D w'
  have qE : Hid (∀ w', Calls Tryd.prog 17 #[.int .i64 M] w' fun e w'' => e = .returned (.string E) ∧ Below w'.heap.size w' w'') := fun w' => by rw [hE]; exact specNumT_any M w'
  have HZ : Hid ((((⟨#[27, 91]⟩ ++ A) ++ fD : ByteArray) = stT D fD) ∧ (((⟨#[27, 91]⟩ ++ E) ++ fC : ByteArray) = stT M fC)) := ⟨by rw [hA]; rfl, by rw [hE]; rfl⟩
  have HS : Hid (((⟨#[27, 91]⟩ ++ A) ++ ⟨#[68]⟩ : ByteArray).size = 2 + A.size + 1 ∧ ((⟨#[27, 91]⟩ ++ E) ++ ⟨#[67]⟩ : ByteArray).size = 2 + E.size + 1) := ⟨by simp only [ByteArray.size_append]; rfl, by simp only [ByteArray.size_append]; rfl⟩
  have HDM : Hid (D = x3 - x ∧ M = x - x3) := ⟨hD, hM⟩
  have hcv := fun W : World => Lib.run_convert_string_bytes (P := Tryd.prog) W 9 26 5 ((⟨#[27, 91]⟩ ++ A) ++ ⟨#[68]⟩) Tryd.underlying9 Tryd.underlying26 Tryd.underlying5
  have hcw := fun W : World => Lib.run_convert_string_bytes (P := Tryd.prog) W 9 26 5 ((⟨#[27, 91]⟩ ++ E) ++ ⟨#[67]⟩) Tryd.underlying9 Tryd.underlying26 Tryd.underlying5
  obtain ⟨i0, hi, hz0, hz1, hz2⟩ := info_parts Tryd.infoB
  obtain ⟨W0, hW0⟩ : ∃ W0, W0 = w.alloc (.cells #[.int .i64 x0, .int .i64 x1, .slice a n c, .int .i64 x3, .int .i64 x4, .bool true] 29) := ⟨_, rfl⟩
  have bW0 : Below w.heap.size w W0 := by rw [hW0]; exact (Below.refl _ _).alloc (Nat.le_refl _) _
  have hbox : W0.heap[w.heap.size]? = some (.cells #[.int .i64 x0, .int .i64 x1, .slice a n c, .int .i64 x3, .int .i64 x4, .bool true] 29 (0, 0)) := by rw [hW0]; exact heap_alloc_new w _
  have zW0 : W0.heap.size = w.heap.size + 1 := by rw [hW0]; simp
  have HW0 : Hid (W0 = _) := hW0
  have HBX : Hid (∀ w', Below W0.heap.size W0 w' → w'.heap[w.heap.size]? = some (.cells #[.int .i64 x0, .int .i64 x1, .slice a n c, .int .i64 x3, .int .i64 x4, .bool true] 29 (0, 0))) := fun w' h' => (h'.block _ (by omega)).trans hbox
  have HB0 : Hid (Below w.heap.size w W0) := bW0
  clear hW0 hbox
  have y0' := HBX.out W0 (Below.refl _ _)
  have y0 : W0.cell? ⟨w.heap.size, 0, none⟩ = some (.int .i64 x0) := box_cell y0' rfl
  have y1 : W0.cell? ⟨w.heap.size, 1, none⟩ = some (.int .i64 x1) := box_cell y0' rfl
  have y2 : W0.cell? ⟨w.heap.size, 2, none⟩ = some (.slice a n c) := box_cell y0' rfl
  have y3 : W0.cell? ⟨w.heap.size, 3, none⟩ = some (.int .i64 x3) := box_cell y0' rfl
  have y4 : W0.cell? ⟨w.heap.size, 4, none⟩ = some (.int .i64 x4) := box_cell y0' rfl
  have y5 : W0.cell? ⟨w.heap.size, 5, none⟩ = some (.bool true) := box_cell y0' rfl
  clear y0'
  have qg : Hid (∀ w', Below w.heap.size w w' → Calls Tryd.prog 14 #[.agg #[.int .i64 x0, .int .i64 x1, .slice a n c, .int .i64 x3, .int .i64 x4, .bool true]] w' fun e w'' => e = .returned (.bool (gokB (x0, x1, zs, x3, x4, true, ()))) ∧ Below w'.heap.size w' w'') := fun w' hb => specGok_any x0 x1 x3 x4 a n c true zs w' (hr.later hb)
  have HX : Hid (0 ≤ x ∧ x < 200 ∧ 0 ≤ x3 ∧ x3 < 200) := ⟨hx.1, hx.2.1, hX.1, hX.2⟩
  clear hok hgp hD hM hA hE hp hx hX
  go_enter Tryd.func5, Tryd.ntmps5
  go_wp2_with fail
  rw [← HW0.out]
  refine (qg.out _ HB0.out).mono ?_
  rintro e w1 ⟨rfl, hb1⟩
  rw [HG.out]
  have b1 := HB0.out.trans (hb1.mono HB0.out.size)
  have k1 := hb1
  have zs1 := b1.size
  clear y0 y1 y2 y3 y4 y5 hb1
  have i_w1 := HBX.out w1 k1
  have y0 : w1.cell? ⟨w.heap.size, 0, none⟩ = some (.int .i64 x0) := box_cell i_w1 rfl
  have y1 : w1.cell? ⟨w.heap.size, 1, none⟩ = some (.int .i64 x1) := box_cell i_w1 rfl
  have y2 : w1.cell? ⟨w.heap.size, 2, none⟩ = some (.slice a n c) := box_cell i_w1 rfl
  have y3 : w1.cell? ⟨w.heap.size, 3, none⟩ = some (.int .i64 x3) := box_cell i_w1 rfl
  have y4 : w1.cell? ⟨w.heap.size, 4, none⟩ = some (.int .i64 x4) := box_cell i_w1 rfl
  have y5 : w1.cell? ⟨w.heap.size, 5, none⟩ = some (.bool true) := box_cell i_w1 rfl
  clear i_w1
  go_wp2_with fail
  refine (sgoto_txt x x4 w1 w.heap.size zs1).mono ?_
  rintro e w2 ⟨v2, rfl, p2, hb2⟩
  have b2 := b1.trans (hb2.mono b1.size)
  have k2 := k1.trans (hb2.mono k1.size)
  have zs2 := b2.size
  clear b1 k1
  clear y0 y1 y2 y3 y4 y5
  have i_w2 := HBX.out w2 k2
  have y0 : w2.cell? ⟨w.heap.size, 0, none⟩ = some (.int .i64 x0) := box_cell i_w2 rfl
  have y1 : w2.cell? ⟨w.heap.size, 1, none⟩ = some (.int .i64 x1) := box_cell i_w2 rfl
  have y2 : w2.cell? ⟨w.heap.size, 2, none⟩ = some (.slice a n c) := box_cell i_w2 rfl
  have y3 : w2.cell? ⟨w.heap.size, 3, none⟩ = some (.int .i64 x3) := box_cell i_w2 rfl
  have y4 : w2.cell? ⟨w.heap.size, 4, none⟩ = some (.int .i64 x4) := box_cell i_w2 rfl
  have y5 : w2.cell? ⟨w.heap.size, 5, none⟩ = some (.bool true) := box_cell i_w2 rfl
  clear i_w2
  go_wp2_with fail
  refine (qA.out _).mono ?_
  rintro e w3 ⟨rfl, hb3⟩
  have p2x := p2.later hb3
  clear p2
  have b3 := b2.trans (hb3.mono b2.size)
  have k3 := k2.trans (hb3.mono k2.size)
  have zs3 := b3.size
  clear b2 k2
  clear y0 y1 y2 y3 y4 y5
  have i_w3 := HBX.out w3 k3
  have y0 : w3.cell? ⟨w.heap.size, 0, none⟩ = some (.int .i64 x0) := box_cell i_w3 rfl
  have y1 : w3.cell? ⟨w.heap.size, 1, none⟩ = some (.int .i64 x1) := box_cell i_w3 rfl
  have y2 : w3.cell? ⟨w.heap.size, 2, none⟩ = some (.slice a n c) := box_cell i_w3 rfl
  have y3 : w3.cell? ⟨w.heap.size, 3, none⟩ = some (.int .i64 x3) := box_cell i_w3 rfl
  have y4 : w3.cell? ⟨w.heap.size, 4, none⟩ = some (.int .i64 x4) := box_cell i_w3 rfl
  have y5 : w3.cell? ⟨w.heap.size, 5, none⟩ = some (.bool true) := box_cell i_w3 rfl
  clear i_w3
  have tb3 := below_conv w3 ((⟨#[27, 91]⟩ ++ A) ++ ⟨#[68]⟩)
  have tc3 := txt_conv w3 w.heap.size ((⟨#[27, 91]⟩ ++ A) ++ ⟨#[68]⟩) zs3 (by rw [HS.out.1]; unfold maxLen; omega)
  have p2y := p2x.later tb3
  clear p2x
  have QS3 : Hid (∀ ok : Bool, Calls Tryd.prog 16 #[.slice (some ⟨w3.heap.size, 0, none⟩) (2 + A.size + 1) (grownCap w3 (2 + A.size + 1) 0 5), .bool ok, v2] (Lib.bytesWorld w3 5 ((⟨#[27, 91]⟩ ++ A) ++ ⟨#[68]⟩)) fun e w' => ∃ v, e = .returned v ∧ Txt w' w.heap.size v (shM (bytesZ ((⟨#[27, 91]⟩ ++ A) ++ ⟨#[68]⟩)) ok (gotoZ x x4)) ∧ Below w.heap.size w w' ∧ Below W0.heap.size W0 w') := fun ok => by
    rw [HS.out.1] at tc3
    exact (shorter_txt _ w.heap.size _ _ _ _ ok tc3 p2y).mono fun e w' ⟨v, h1, h2, h3⟩ => by subst h3; exact ⟨v, h1, h2, b3.trans (tb3.mono b3.size), k3.trans (tb3.mono k3.size)⟩
  have u3 : (Lib.bytesWorld w3 5 ((⟨#[27, 91]⟩ ++ A) ++ ⟨#[68]⟩)).cell? ⟨w.heap.size, 3, none⟩ = some (.int .i64 x3) := box_cell (HBX.out _ (k3.trans (tb3.mono k3.size))) rfl
  clear tb3 tc3 p2y b3 k3
  go_wp2_with fail
  refine (QS3.out _).mono ?_
  rintro e w4 ⟨v4, rfl, p4, b4, k4⟩
  have zs4 := b4.size
  clear QS3 u3
  obtain ⟨L4, hL4⟩ : ∃ L, L = shM (bytesZ ((⟨#[27, 91]⟩ ++ A) ++ ⟨#[68]⟩)) (false) (gotoZ x x4) := ⟨_, rfl⟩
  rw [← hL4] at p4
  have HL4 : Hid (L4 = _) := hL4
  clear hL4 y0 y1 y2 y3 y4 y5
  have i_w4 := HBX.out w4 k4
  have y0 : w4.cell? ⟨w.heap.size, 0, none⟩ = some (.int .i64 x0) := box_cell i_w4 rfl
  have y1 : w4.cell? ⟨w.heap.size, 1, none⟩ = some (.int .i64 x1) := box_cell i_w4 rfl
  have y2 : w4.cell? ⟨w.heap.size, 2, none⟩ = some (.slice a n c) := box_cell i_w4 rfl
  have y3 : w4.cell? ⟨w.heap.size, 3, none⟩ = some (.int .i64 x3) := box_cell i_w4 rfl
  have y4 : w4.cell? ⟨w.heap.size, 4, none⟩ = some (.int .i64 x4) := box_cell i_w4 rfl
  have y5 : w4.cell? ⟨w.heap.size, 5, none⟩ = some (.bool true) := box_cell i_w4 rfl
  clear i_w4
  go_wp2_with fail
  refine (qE.out _).mono ?_
  rintro e w5 ⟨rfl, hb5⟩
  have p4x := p4.later hb5
  clear p4
  have b5 := b4.trans (hb5.mono b4.size)
  have k5 := k4.trans (hb5.mono k4.size)
  have zs5 := b5.size
  clear b4 k4
  clear y0 y1 y2 y3 y4 y5
  have i_w5 := HBX.out w5 k5
  have y0 : w5.cell? ⟨w.heap.size, 0, none⟩ = some (.int .i64 x0) := box_cell i_w5 rfl
  have y1 : w5.cell? ⟨w.heap.size, 1, none⟩ = some (.int .i64 x1) := box_cell i_w5 rfl
  have y2 : w5.cell? ⟨w.heap.size, 2, none⟩ = some (.slice a n c) := box_cell i_w5 rfl
  have y3 : w5.cell? ⟨w.heap.size, 3, none⟩ = some (.int .i64 x3) := box_cell i_w5 rfl
  have y4 : w5.cell? ⟨w.heap.size, 4, none⟩ = some (.int .i64 x4) := box_cell i_w5 rfl
  have y5 : w5.cell? ⟨w.heap.size, 5, none⟩ = some (.bool true) := box_cell i_w5 rfl
  clear i_w5
  have tb5 := below_conv w5 ((⟨#[27, 91]⟩ ++ E) ++ ⟨#[67]⟩)
  have tc5 := txt_conv w5 w.heap.size ((⟨#[27, 91]⟩ ++ E) ++ ⟨#[67]⟩) zs5 (by rw [HS.out.2]; unfold maxLen; omega)
  have p4y := p4x.later tb5
  clear p4x
  have QS5 : Hid (∀ ok : Bool, Calls Tryd.prog 16 #[.slice (some ⟨w5.heap.size, 0, none⟩) (2 + E.size + 1) (grownCap w5 (2 + E.size + 1) 0 5), .bool ok, v4] (Lib.bytesWorld w5 5 ((⟨#[27, 91]⟩ ++ E) ++ ⟨#[67]⟩)) fun e w' => ∃ v, e = .returned v ∧ Txt w' w.heap.size v (shM (bytesZ ((⟨#[27, 91]⟩ ++ E) ++ ⟨#[67]⟩)) ok L4) ∧ Below w.heap.size w w' ∧ Below W0.heap.size W0 w') := fun ok => by
    rw [HS.out.2] at tc5
    exact (shorter_txt _ w.heap.size _ _ _ _ ok tc5 p4y).mono fun e w' ⟨v, h1, h2, h3⟩ => by subst h3; exact ⟨v, h1, h2, b5.trans (tb5.mono b5.size), k5.trans (tb5.mono k5.size)⟩
  have u3 : (Lib.bytesWorld w5 5 ((⟨#[27, 91]⟩ ++ E) ++ ⟨#[67]⟩)).cell? ⟨w.heap.size, 3, none⟩ = some (.int .i64 x3) := box_cell (HBX.out _ (k5.trans (tb5.mono k5.size))) rfl
  clear tb5 tc5 p4y b5 k5
  go_wp2_with fail
  refine (QS5.out _).mono ?_
  rintro e w6 ⟨v6, rfl, p6, b6, k6⟩
  have zs6 := b6.size
  clear QS5 u3
  obtain ⟨L6, hL6⟩ : ∃ L, L = shM (bytesZ ((⟨#[27, 91]⟩ ++ E) ++ ⟨#[67]⟩)) (false) L4 := ⟨_, rfl⟩
  rw [← hL6] at p6
  have HL6 : Hid (L6 = _) := hL6
  clear hL6 y0 y1 y2 y3 y4 y5
  have i_w6 := HBX.out w6 k6
  have y0 : w6.cell? ⟨w.heap.size, 0, none⟩ = some (.int .i64 x0) := box_cell i_w6 rfl
  have y1 : w6.cell? ⟨w.heap.size, 1, none⟩ = some (.int .i64 x1) := box_cell i_w6 rfl
  have y2 : w6.cell? ⟨w.heap.size, 2, none⟩ = some (.slice a n c) := box_cell i_w6 rfl
  have y3 : w6.cell? ⟨w.heap.size, 3, none⟩ = some (.int .i64 x3) := box_cell i_w6 rfl
  have y4 : w6.cell? ⟨w.heap.size, 4, none⟩ = some (.int .i64 x4) := box_cell i_w6 rfl
  have y5 : w6.cell? ⟨w.heap.size, 5, none⟩ = some (.bool true) := box_cell i_w6 rfl
  clear i_w6
  have ho0 := World.ownsRow_lit (base := w6.heap.size) (e := 5) (size := 1) w6 #[] 0 (Nat.le_refl _) (Nat.zero_le _) rfl
  have H6 : Hid (Txt w6 w.heap.size v6 L6 ∧ Below w.heap.size w w6 ∧ Below W0.heap.size W0 w6) := ⟨p6, b6, k6⟩
  clear p6 b6 k6 y0 y1 y2 y3 y4 y5
  go_wp2
  go_loopw [11, 12] (fun v i wr => ∃ (k c : Nat) (g : Option Addr), k ≤ (x3 - x).toNat ∧ v = .slice g k c ∧ i = .int .i64 (x + k) ∧ Hid (wr.ownsRow w6.heap.size 5 1 (.slice g k c) k ((List.replicate k (8 : Int)).map (Value.int .u8)) ∧ Below w6.heap.size w6 wr))
    (fun _ i _ => (x3 - intOf i).toNat)
  case atStart => exact ⟨0, _, _, Nat.zero_le _, rfl, by simp, ho0, (Below.refl _ _).alloc (Nat.le_refl _) _⟩
  case round =>
    obtain ⟨k, c9, g9, hk, rfl, rfl, HI⟩ := hrel
    have k7 := H6.out.2.2.trans (HI.out.2.mono H6.out.2.2.size)
    have i_wr := HBX.out wr k7
    have y3 : wr.cell? ⟨w.heap.size, 3, none⟩ = some (.int .i64 x3) := box_cell i_wr rfl
    clear i_wr
    have hX := HX.out
    by_cases hlt : x + (k : Int) < x3
    · have d8 : decide (x + (k : Int) < x3) = true := decide_eq_true hlt
      have hw9 : IntKind.i64.wrap (x + (k : Int) + 1) = x + (k : Int) + 1 := wrap_i64_in _ (by omega) (by omega)
      have bl : Below wr.heap.size wr (wr.alloc (.cells #[.int .u8 8] 5)) := (Below.refl _ _).alloc (Nat.le_refl _) _
      have hown2 := own_later HI.out.1 bl
      have hlits : (wr.alloc (.cells #[.int .u8 8] 5)).cell? ⟨wr.heap.size, 0, none⟩ = some (.int .u8 8) := box_cell (heap_alloc_new _ _) rfl
      have hsz := HI.out.2.size
      have hg := fun gg (e : (Value.slice g9 k c9).ownBlock = some gg) => HI.out.1.lt gg e
      have HB : Hid (Below w6.heap.size w6 (wr.alloc (.cells #[.int .u8 8] 5))) := HI.out.2.trans (bl.mono HI.out.2.size)
      clear k7
      go_wp2_with (at_builtin; refine wpList_append_lies _ rfl _ _ 26 rfl w6.heap.size 5 i0 (.int .u8 0) 1 1 Tryd.underlying26 hi hz0 hz1 hz2 rfl (by decide) _ k _ rfl hown2 ⟨wr.heap.size, 0, none⟩ 1 _ [.int .u8 8] rfl rfl (World.news_of_block (heap_alloc_new wr _)) (by simp; rfl) (by decide) ?c3 ?c4 (by simp; omega) _ rfl ?_)
      case c3 => unfold maxLen; omega
      case c4 => omega
      intro gg cb w2x o2 hgw _ _
      have hb9 := HB.out.grown hgw HB.out.size (fun z h => (hg z h).1)
      have e8 : (List.replicate (k + 1) (8 : Int)).map (Value.int .u8) = (List.replicate k (8 : Int)).map (Value.int .u8) ++ [.int .u8 8] := by rw [List.replicate_succ', List.map_append]; rfl
      have HR : Hid (w2x.ownsRow w6.heap.size 5 1 (.slice (some ⟨gg, 0, none⟩) (k + 1) cb) (k + 1) ((List.replicate (k + 1) (8 : Int)).map (Value.int .u8)) ∧ Below w6.heap.size w6 w2x) := ⟨by first | (rw [e8]; exact o2) | (rw [e8]; simpa using o2) | (simpa [List.replicate_succ'] using o2), hb9⟩
      clear e8
      clear o2 hgw hb9 hown2 bl hlits hsz hg
      go_wp2
      go_roundw
      case rel => exact ⟨k + 1, cb, some ⟨gg, 0, none⟩, by omega, rfl, by go_num, HR⟩
      case measure => simp [intOf]; omega
    · have d8 : decide (x + (k : Int) < x3) = false := decide_eq_false hlt
      have ek : (x3 - x).toNat = k := by omega
      have EK : Hid ((x3 - x).toNat = k) := ek
      have hk200 : k ≤ 200 := by omega
      have b7 := H6.out.2.1.trans (HI.out.2.mono H6.out.2.1.size)
      have tv := H6.out.1.later HI.out.2
      have tk : Txt wr w.heap.size (.slice g9 k c9) (List.replicate k 8) := by
        obtain ⟨F, h1, h2⟩ := txt_row (B := w6.heap.size) (n := k) (by simp) (fun z hz => by rw [List.eq_of_mem_replicate hz]; omega) HI.out.1
        exact ⟨F, h1.base H6.out.2.1.size, h2⟩
      have QS7 : Hid (∀ ok : Bool, Calls Tryd.prog 16 #[.slice g9 k c9, .bool ok, v6] wr fun e w' => ∃ v, e = .returned v ∧ Txt w' w.heap.size v (shM (List.replicate k 8) ok L6) ∧ Below w.heap.size w w' ∧ Below W0.heap.size W0 w') := fun ok =>
        (shorter_txt _ w.heap.size _ _ _ _ ok tk tv).mono fun e w' ⟨v, h1, h2, h3⟩ => by subst h3; exact ⟨v, h1, h2, b7, k7⟩
      clear b7 k7 tv tk ek hX
      go_wp2_with fail
      refine (QS7.out _).mono ?_
      rintro e w8 ⟨v8, rfl, p8, b8, k8⟩
      obtain ⟨L8, hL8⟩ : ∃ L, L = shM (List.replicate k 8) (false) L6 := ⟨_, rfl⟩
      rw [← hL8] at p8
      have HL8 : Hid (L8 = _) := hL8
      have bl8 : Below w8.heap.size w8 (w8.alloc (.cells #[.int .u8 13] 5)) := (Below.refl _ _).alloc (Nat.le_refl _) _
      have t13 : Txt (w8.alloc (.cells #[.int .u8 13] 5)) w.heap.size (.slice (some ⟨w8.heap.size, 0, none⟩) 1 1) [13] := ⟨[w8.heap.size], owC_row (d := [13]) b8.size (heap_alloc_new _ _) (Nat.le_refl _) (by unfold maxLen; omega) (fun i hi => by simp at hi; subst hi; rfl) (by simp), by simp⟩
      have b9 := b8.trans (bl8.mono b8.size)
      have k9 := k8.trans (bl8.mono k8.size)
      have QS9 : Hid (∀ ok : Bool, Calls Tryd.prog 16 #[.slice (some ⟨w8.heap.size, 0, none⟩) 1 1, .bool ok, v8] (w8.alloc (.cells #[.int .u8 13] 5)) fun e w' => ∃ v, e = .returned v ∧ Txt w' w.heap.size v (shM [13] ok L8) ∧ Below w.heap.size w w' ∧ Below W0.heap.size W0 w') := fun ok =>
        (shorter_txt _ w.heap.size _ _ _ _ ok t13 (p8.later bl8)).mono fun e w' ⟨v, h1, h2, h3⟩ => by subst h3; exact ⟨v, h1, h2, b9, k9⟩
      clear hL8 p8 b8 k8 bl8 t13 b9 k9 y3
      go_wp2_with fail
      refine (QS9.out _).mono ?_
      rintro e w10 ⟨v10, rfl, p10, b10, k10⟩
      obtain ⟨LA, hLA⟩ : ∃ L, L = shM [13] (x == 0) L8 := ⟨_, rfl⟩
      rw [← hLA] at p10
      have HLA : Hid (LA = _) := hLA
      have blA : Below w10.heap.size w10 (w10.alloc (.cells #[] 5)) := (Below.refl _ _).alloc (Nat.le_refl _) _
      have tA : Txt (w10.alloc (.cells #[] 5)) w.heap.size (.slice (some ⟨w10.heap.size, 0, none⟩) 0 0) [] := ⟨[w10.heap.size], owC_row (d := []) b10.size (heap_alloc_new _ _) (Nat.le_refl _) (Nat.zero_le _) (fun i hi => by simp at hi) (by simp), by simp⟩
      have b11 := b10.trans (blA.mono b10.size)
      have k11 := k10.trans (blA.mono k10.size)
      have QS11 : Hid (∀ ok : Bool, Calls Tryd.prog 16 #[.slice (some ⟨w10.heap.size, 0, none⟩) 0 0, .bool ok, v10] (w10.alloc (.cells #[] 5)) fun e w' => ∃ v, e = .returned v ∧ Txt w' w.heap.size v (shM [] ok LA) ∧ Below w.heap.size w w') := fun ok =>
        (shorter_txt _ w.heap.size _ _ _ _ ok tA (p10.later blA)).mono fun e w' ⟨v, h1, h2, h3⟩ => by subst h3; exact ⟨v, h1, h2, b11⟩
      have u3 : (w10.alloc (.cells #[] 5)).cell? ⟨w.heap.size, 3, none⟩ = some (.int .i64 x3) := box_cell (HBX.out _ k11) rfl
      have u3' : w10.cell? ⟨w.heap.size, 3, none⟩ = some (.int .i64 x3) := box_cell (HBX.out _ k10) rfl
      clear hLA p10 b10 k10 blA tA b11 k11
      go_wp2_with fail
      refine (QS11.out _).mono ?_
      rintro e w12 ⟨v12, rfl, p12, b12⟩
      have HF : Hid (shM [] (false) LA = stepM x3 true false x x4) := by
        show _ = _
        have e1 : bytesZ ((⟨#[27, 91]⟩ ++ A) ++ ⟨#[68]⟩) = bytesZ (stT (x3 - x) fD) := by rw [← HDM.out.1, ← HZ.out.1]; rfl
        have e2 : bytesZ ((⟨#[27, 91]⟩ ++ E) ++ ⟨#[67]⟩) = bytesZ (stT (x - x3) fC) := by rw [← HDM.out.2, ← HZ.out.2]; rfl
        rw [HLA.out, HL8.out, HL6.out, HL4.out, e1, e2]
        unfold stepM
        rw [EK.out]
        rfl
      have HH : Hid (_ ∧ _) := ⟨p12, b12⟩
      clear p12 b12
      go_wp2
      go_ret2
      exact ⟨_, by rw [ES.out]; rfl, by rw [EA.out, ← HF.out]; exact HH.out.1, HH.out.2⟩

end Go.Proofs.YthgbionamelloaaDoor
