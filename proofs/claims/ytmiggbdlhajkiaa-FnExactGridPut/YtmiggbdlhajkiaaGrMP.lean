/-
  The sheet's put. By program (grpgen.py).
-/
import Derived.Test.YtmiggbdlhajkiaaGrMG
import Derived.Test.YtmiggbdlhajkiaaGrMB
import Derived.Test.YtmiggbdlhajkiaaGrX
namespace Go.Proofs.Ytmiggbdlhajkiaa
open Go.RowKit
set_option linter.unusedVariables false
set_option linter.unusedSimpArgs false

/-- The d cells from the place a on hold v (and h). -/
def putZ (a d : Nat) (v h : Int) (zs : List Int) : List Int := zs.take a ++ ([v, h].take d ++ zs.drop (a + d))
theorem putZ_len {a d : Nat} {v h : Int} {zs : List Int} (hd : d ≤ 2) (ha : a + d ≤ zs.length) : (putZ a d v h zs).length = zs.length := by
  unfold putZ; simp; omega

theorem clrZ_len {hf b x y : Int} {zs : List Int} : (clrZ hf b x y zs).length = zs.length := by
  unfold clrZ
  split
  · rename_i h
    have hU : clrT hf zs (min y (zs.length : Int)).toNat ≤ zs.length := by unfold clrT; split <;> omega
    have hT2 : (min y (zs.length : Int)).toNat ≤ clrT hf zs (min y (zs.length : Int)).toNat := by unfold clrT; split <;> omega
    have hF : clrF hf zs (max x 0).toNat ≤ (max x 0).toNat := by unfold clrF; split <;> omega
    rw [clrR_len (by omega) hU]
  · rfl

theorem sheet_put {w : World} {B p g n a d : Nat} {W H X Y v h : Int} {wr : Bool} {zs : List Int} (hs : SheetAt w B p g n W H X Y wr zs) (hn0 : 0 < n) (hd : d ≤ 2) (ha : a + d ≤ n) (o : Obj) :
    SheetAt ((w.alloc o).setRow g ((zs.map (Value.int .i64)).take a ++ (([v, h].map (Value.int .i64)).take d ++ (zs.map (Value.int .i64)).drop (a + (([v, h].map (Value.int .i64)).take d).length))).toArray) B p g n W H X Y wr (putZ a d v h zs) ∧ Touch w ((w.alloc o).setRow g ((zs.map (Value.int .i64)).take a ++ (([v, h].map (Value.int .i64)).take d ++ (zs.map (Value.int .i64)).drop (a + (([v, h].map (Value.int .i64)).take d).length))).toArray) [p, g] := by
  obtain ⟨hBg, hgx, hmx⟩ := row_exact hn0 hs.row
  have hl := hs.len
  have hlt := box_lt hgx
  have hltp := box_lt hs.box
  have e0 : (([v, h].map (Value.int .i64)).take d).length = d := by rw [List.length_take]; simp; omega
  have hg1 : (w.alloc o).heap[g]? = some (.cells (zs.map (Value.int .i64)).toArray 3 (0, 0)) := (heap_alloc_old _ _ hlt).trans hgx
  refine ⟨⟨?_, ?_, ?_, hs.lo, hs.ne⟩, ?_⟩
  · exact (setRow_other _ _ _ _ hs.ne).trans ((heap_alloc_old _ _ hltp).trans hs.box)
  · refine exact_row hBg (by rw [putZ_len hd (by omega)]; exact hl) hmx ?_
    rw [setRow_heap _ _ _ _ _ _ hg1, e0]
    unfold putZ
    rw [List.map_append, List.map_append, List.map_take, List.map_take, List.map_drop]
  · rw [putZ_len hd (by omega)]; exact hl
  · refine Touch.trans (b := w.alloc o) (Touch.of_below ((Below.refl _ _).alloc (Nat.le_refl _) _) _) ?_
    exact (touch_setRow _ _ _).mono fun z hz => by simp at hz; simp [hz]

theorem lit_src {w : World} {v h : Int} {d : Nat} : ∀ j u, (([v, h].map (Value.int .i64)).take d)[j]? = some u → (w.alloc (.cells #[.int .i64 v, .int .i64 h] 3)).cell? ((⟨w.heap.size, 0, none⟩ : Addr).add j) = some u := by
  intro j u hu
  have e : (⟨w.heap.size, 0, none⟩ : Addr).add j = ⟨w.heap.size, j, none⟩ := by cases j <;> simp [Addr.add]
  rw [e]
  refine box_cell (heap_alloc_new w _) ?_
  by_cases hj : j < d
  · rw [List.getElem?_take_of_lt hj] at hu
    simpa using hu
  · rw [List.getElem?_eq_none (by rw [List.length_take]; omega)] at hu; cases hu

set_option maxRecDepth 100000 in
set_option maxHeartbeats 2000000 in
theorem put_zero (p g n B W : Nat) (H X Y r : Int) (wr : Bool) (zs : List Int) (w : World) (hs : SheetAt w B p g n W H X Y wr zs) (hW : 2 ≤ W) (hW2 : W ≤ 200) (hWn : W ≤ n) (hn : n ≤ 8000) (hH : 1 ≤ H) (hH2 : H ≤ 200) (hX : 0 ≤ X) (hX2 : X < W) (hY : 0 ≤ Y) (hY2 : Y < H) (hw : wd r = 0) :
    Calls Try.prog 24 #[.pointer (some ⟨p, 0, none⟩), .int .i64 r] w fun e w' => e = .returned (.tuple #[]) ∧ SheetAt w' B p g n W H X Y wr zs ∧ Touch w w' [p, g] := by
  have qw : Hid (∀ w', Calls Try.prog 37 #[.int .i64 r] w' fun e w'' => e = .returned (.int .i64 0) ∧ w'' = w') := fun w' => by rw [← hw]; exact implWid_any r w'
  have HS : Hid (SheetAt w B p g n W H X Y wr zs) := hs
  clear hs hw
  go_enter Try.func24, Try.ntmps24
  go_wp2_with fail
  refine (qw.out _).mono ?_
  rintro e w1 ⟨rfl, rfl⟩
  go_wp2
  refine bodyPost_ret (v := .tuple #[]) (by simp [results, Try.results24, go_sem]) rfl ⟨rfl, HS.out, Touch.refl _ _⟩

set_option maxRecDepth 100000 in
set_option maxHeartbeats 4000000 in
theorem put_1 (p g n B W : Nat) (H X Y r : Int) (wr : Bool) (zs : List Int) (w : World) (hs : SheetAt w B p g n W H X Y wr zs) (hW : 2 ≤ W) (hW2 : W ≤ 200) (hWn : W ≤ n) (hn : n ≤ 8000) (hH : 1 ≤ H) (hH2 : H ≤ 200) (hX : 0 ≤ X) (hX2 : X < W) (hY : 0 ≤ Y) (hY2 : Y < H) (hw : wd r = 1) (hr : 32 ≤ r ∧ r ≤ 1114111) (X1 Y1 : Nat) (z1 : List Int) (XN : Int) (bN : Bool) (hXN : (if (X1 : Int) + 1 = W then (X1 : Int) + 1 - 1 else (X1 : Int) + 1) = XN) (hbN : (if (X1 : Int) + 1 = W then true else false) = bN) (h0 : at0 z1 0 ≠ -33) (hfit : Y1 * W + X1 + 1 ≤ n) (hXY : X1 ≤ 200 ∧ Y1 ≤ 200)
    (hb : ((wr = true ∨ (wr = false ∧ (W : Int) < X + 1)) ∧ X1 = 0 ∧ clampG (Y + 1) H = (Y1 : Int) ∧ z1 = (if Y = H - 1 then scr 0 W zs else zs)) ∨ (wr = false ∧ X + 1 ≤ (W : Int) ∧ X = (X1 : Int) ∧ Y = (Y1 : Int) ∧ z1 = zs)) :
    Calls Try.prog 24 #[.pointer (some ⟨p, 0, none⟩), .int .i64 r] w fun e w' => e = .returned (.tuple #[]) ∧ SheetAt w' B p g n W H XN Y1 bN (putZ (Y1 * W + X1) 1 (r - 32) (-33) (clrZ (-33) 0 ((Y1 * W + X1 : Nat) : Int) ((Y1 * W + X1 + 1 : Nat) : Int) z1)) ∧ Touch w w' [p, g] := by
  have qw : Hid (∀ w', Calls Try.prog 37 #[.int .i64 r] w' fun e w'' => e = .returned (.int .i64 1) ∧ w'' = w') := fun w' => by rw [← hw]; exact implWid_any r w'
  have HS : Hid (SheetAt w B p g n W H X Y wr zs) := hs
  have hlz : z1.length = n := by
    rcases hb with ⟨_, _, _, h⟩ | ⟨_, _, _, _, h⟩
    · rw [h]; split
      · rw [scr_len (by rw [hs.len]; exact hWn)]; exact hs.len
      · exact hs.len
    · rw [h]; exact hs.len
  obtain ⟨pp, hpp⟩ : ∃ pp, pp = Y1 * W := ⟨_, rfl⟩
  obtain ⟨a, ha⟩ : ∃ a, a = Y1 * W + X1 := ⟨_, rfl⟩
  have hpi : (Y1 : Int) * (W : Int) = (pp : Int) := by rw [hpp]; simp
  have hai : (pp : Int) + (X1 : Int) = (a : Int) := by rw [ha, hpp]; simp
  rw [← ha] at hfit ⊢
  have HAX : Hid (a = pp + X1) := by show _ = _; rw [ha, hpp]
  have HX1 : Hid (X1 = 0 → a = pp) := fun h => by rw [ha, hpp, h]; rfl
  have wpp : IntKind.i64.wrap (pp : Int) = (pp : Int) := wrap_i64_in _ (by omega) (by omega)
  have wa : IntKind.i64.wrap (a : Int) = (a : Int) := wrap_i64_in _ (by omega) (by omega)
  have wa1 : IntKind.i64.wrap ((a : Int) + 1) = (a : Int) + 1 := wrap_i64_in _ (by omega) (by omega)
  have wr32 : IntKind.i64.wrap (r - 32) = r - 32 := wrap_i64_in _ (by omega) (by omega)
  have ea : ((a + 1 : Nat) : Int) = (a : Int) + 1 := by simp
  have qb : Hid (∀ w' X' Y' wr', SheetAt w' B p g n W H X' Y' wr' z1 → Calls Try.prog 39 #[.pointer (some ⟨p, 0, none⟩), .int .i64 (a : Int), .int .i64 ((a : Int) + 1)] w' fun e w'' => e = .returned (.tuple #[]) ∧ SheetAt w'' B p g n W H X' Y' wr' (clrZ (-33) 0 (a : Int) ((a + 1 : Nat) : Int) z1) ∧ Touch w' w'' [p, g]) := fun w' X' Y' wr' h => by
    rw [ea]; exact blank_any p g n B W H X' Y' (a : Int) ((a : Int) + 1) wr' z1 w' h hn (by omega) h0
  obtain ⟨z2, hz2⟩ : ∃ z2, z2 = clrZ (-33) 0 (a : Int) ((a + 1 : Nat) : Int) z1 := ⟨_, rfl⟩
  rw [← hz2] at qb ⊢
  have qo : Hid (∀ w' Y' zz, SheetAt w' B p g n W H (X1 : Int) Y' false zz → Calls Try.prog 40 #[.pointer (some ⟨p, 0, none⟩), .int .i64 1] w' fun e w'' => e = .returned (.tuple #[]) ∧ SheetAt w'' B p g n W H XN Y' bN zz ∧ Touch w' w'' [p, g]) := fun w' Y' zz h => by
    rw [← hXN, ← hbN]; exact goOn_any p g n B W H X1 Y' 1 false zz w' h (by omega) (by omega) (by omega) (by omega)
  have HFIT : Hid (a + 1 ≤ n ∧ 0 < n) := ⟨hfit, by omega⟩
  have fa1 : (a : Int) ≤ (a : Int) + 1 := by omega
  have fa2 : (a : Int) + 1 ≤ (n : Int) := by omega
  have fa3 : ¬ n = a := by omega
  have fa4 : ((a : Int) + 1).toNat = a + 1 := by omega
  have y0 : w.cell? ⟨p, 0, none⟩ = some (.int .i64 W) := box_cell hs.box rfl
  have y3 : w.cell? ⟨p, 3, none⟩ = some (.int .i64 X) := box_cell hs.box rfl
  have y4 : w.cell? ⟨p, 4, none⟩ = some (.int .i64 Y) := box_cell hs.box rfl
  have y5 : w.cell? ⟨p, 5, none⟩ = some (.bool wr) := box_cell hs.box rfl
  have wXd : IntKind.i64.wrap (X + 1) = X + 1 := wrap_i64_in _ (by omega) (by omega)
  clear hs hw hz2 h0 hlz ea ha hpp hr hXN hbN
  have h3 : (wr = true ∧ X1 = 0 ∧ clampG (Y + 1) H = (Y1 : Int) ∧ z1 = (if Y = H - 1 then scr 0 W zs else zs)) ∨ (wr = false ∧ (W : Int) < X + 1 ∧ X1 = 0 ∧ clampG (Y + 1) H = (Y1 : Int) ∧ z1 = (if Y = H - 1 then scr 0 W zs else zs)) ∨ (wr = false ∧ X + 1 ≤ (W : Int) ∧ X = (X1 : Int) ∧ Y = (Y1 : Int) ∧ z1 = zs) := by
    rcases hb with ⟨h | ⟨h, h'⟩, h2⟩ | h
    · exact .inl ⟨h, h2⟩
    · exact .inr (.inl ⟨h, h', h2⟩)
    · exact .inr (.inr h)
  clear hb
  rcases h3 with ⟨k1, k2, k3, k4⟩ | ⟨k1, k0, k2, k3, k4⟩ | ⟨k1, k0, k2, k3, k4⟩
  · subst k1
    subst k2
    obtain rfl : a = pp := HX1.out rfl
    have qn : Hid (∀ w', SheetAt w' B p g n W H X Y true zs → Calls Try.prog 38 #[.pointer (some ⟨p, 0, none⟩), .int .i64 0] w' fun e w'' => e = .returned (.tuple #[]) ∧ SheetAt w'' B p g n W H 0 (Y1 : Int) false z1 ∧ Touch w' w'' [p, g]) := fun w' h => by
      rw [k4, ← k3]; have h7 := goDown_any p g n B W H X Y 0 _ zs w' h hW hW2 hWn hn hH hH2 hY hY2; rw [show clampG 0 (W : Int) = 0 from by unfold clampG; omega] at h7; exact h7
    clear k3 k4 hai HX1 HAX
    go_enter Try.func24, Try.ntmps24
    go_wp2_with fail
    refine (qw.out _).mono ?_
    rintro e w1 ⟨rfl, rfl⟩
    go_wp2
    go_quiet (fail)
    go_wp2_with fail
    refine (qn.out _ (HS.out.drewN _)).mono ?_
    rintro e w2 ⟨rfl, hs2, ht2⟩
    have S2 : Hid (SheetAt w2 B p g n W H 0 (Y1 : Int) false z1) := hs2
    have T2 : Hid (Touch w1 w2 [p, g]) := (touch_drewN (Touch.refl w1 _) _).trans ht2
    clear y0 y3 y4 y5
    have y0 : w2.cell? ⟨p, 0, none⟩ = some (.int .i64 W) := box_cell hs2.box rfl
    have y3 : w2.cell? ⟨p, 3, none⟩ = some (.int .i64 0) := box_cell hs2.box rfl
    have y4 : w2.cell? ⟨p, 4, none⟩ = some (.int .i64 Y1) := box_cell hs2.box rfl
    clear hs2 ht2
    go_wp2
    go_quiet (fail)
    go_wp2_with fail
    refine (qb.out _ _ _ _ (S2.out.drewN _)).mono ?_
    rintro e w3 ⟨rfl, hs3, ht3⟩
    have T3 : Hid (Touch w1 w3 [p, g]) := (touch_drewN T2.out _).trans ht3
    have S3 : Hid (SheetAt w3 B p g n W H 0 (Y1 : Int) false z2) := hs3
    have y2 : w3.cell? ⟨p, 2, none⟩ = some (.slice (some ⟨g, 0, none⟩) n n) := box_cell hs3.box rfl
    have hgx := (row_exact HFIT.out.2 hs3.row).2.1
    have hgl := box_lt hgx
    have hlen3 := hs3.len
    have hg4 : (w3.alloc (.cells #[.int .i64 (r - 32), .int .i64 (-33)] 3)).heap[g]? = some (.cells (z2.map (Value.int .i64)).toArray 3 (0, 0)) := (heap_alloc_old _ _ hgl).trans hgx
    have SP := sheet_put (a := a) (d := 1) (v := r - 32) (h := -33) S3.out HFIT.out.2 (by omega) HFIT.out.1 (.cells #[.int .i64 (r - 32), .int .i64 (-33)] 3)
    have HSP : Hid (SheetAt ((w3.alloc (.cells #[.int .i64 (r - 32), .int .i64 (-33)] 3)).setRow g ((z2.map (Value.int .i64)).take a ++ ((([r - 32, -33].map (Value.int .i64)).take 1) ++ (z2.map (Value.int .i64)).drop (a + (([r - 32, -33].map (Value.int .i64)).take 1).length))).toArray) B p g n W H 0 (Y1 : Int) false (putZ a 1 (r - 32) (-33) z2) ∧ Touch w3 ((w3.alloc (.cells #[.int .i64 (r - 32), .int .i64 (-33)] 3)).setRow g ((z2.map (Value.int .i64)).take a ++ ((([r - 32, -33].map (Value.int .i64)).take 1) ++ (z2.map (Value.int .i64)).drop (a + (([r - 32, -33].map (Value.int .i64)).take 1).length))).toArray) [p, g]) := SP
    obtain ⟨V, hV⟩ : ∃ V, V = ((w3.alloc (.cells #[.int .i64 (r - 32), .int .i64 (-33)] 3)).setRow g ((z2.map (Value.int .i64)).take a ++ ((([r - 32, -33].map (Value.int .i64)).take 1) ++ (z2.map (Value.int .i64)).drop (a + (([r - 32, -33].map (Value.int .i64)).take 1).length))).toArray) := ⟨_, rfl⟩
    have hcp : (Builtin.copy_ #[22, 22] 3 #[.slice (some ⟨g, a, none⟩) 1 (n - a), .slice (some ⟨w3.heap.size, 0, none⟩) 2 2]).run Try.prog (w3.alloc (.cells #[.int .i64 (r - 32), .int .i64 (-33)] 3)) = .ok (goInt 1) V := by
      rw [hV]
      have h9 := run_copy_row (P := Try.prog) (w3.alloc (.cells #[.int .i64 (r - 32), .int .i64 (-33)] 3)) 22 22 3 3 g a 1 (n - a) ⟨w3.heap.size, 0, none⟩ 2 2 (z2.map (Value.int .i64)).toArray 3 (([r - 32, -33].map (Value.int .i64)).take 1) Try.underlying22 (by kernel_rfl) hg4 rfl lit_src (by have h1 := HFIT.out.1; simp [hlen3] <;> omega) (by intro v hv; simp at hv; first | (rcases hv with rfl | rfl <;> rfl) | (subst hv; rfl))
      rw [List.append_assoc] at h9
      exact h9
    have SV : Hid (SheetAt V B p g n W H 0 (Y1 : Int) false (putZ a 1 (r - 32) (-33) z2) ∧ Touch w3 V [p, g]) := by rw [hV]; exact HSP.out
    clear SP hs3 ht3 y0 y3 y4 hgx hgl hg4 hlen3 hV HSP
    go_wp2_with fail
    refine (qo.out _ _ _ SV.out.1).mono ?_
    rintro e w5 ⟨rfl, hs5, ht5⟩
    have S5 : Hid (_ ∧ _) := ⟨hs5, (T3.out.trans SV.out.2).trans ht5⟩
    clear hs5 ht5
    go_wp2
    refine bodyPost_end (v := .tuple #[]) (by simp [results, Try.results24, go_sem]) rfl ⟨rfl, S5.out.1, S5.out.2⟩
  · subst k1
    subst k2
    obtain rfl : a = pp := HX1.out rfl
    have qn : Hid (∀ w', SheetAt w' B p g n W H X Y false zs → Calls Try.prog 38 #[.pointer (some ⟨p, 0, none⟩), .int .i64 0] w' fun e w'' => e = .returned (.tuple #[]) ∧ SheetAt w'' B p g n W H 0 (Y1 : Int) false z1 ∧ Touch w' w'' [p, g]) := fun w' h => by
      rw [k4, ← k3]; have h7 := goDown_any p g n B W H X Y 0 _ zs w' h hW hW2 hWn hn hH hH2 hY hY2; rw [show clampG 0 (W : Int) = 0 from by unfold clampG; omega] at h7; exact h7
    have dk : decide ((W : Int) < X + 1) = true := decide_eq_true k0
    clear k3 k4 hai HX1 HAX k0
    go_enter Try.func24, Try.ntmps24
    go_wp2_with fail
    refine (qw.out _).mono ?_
    rintro e w1 ⟨rfl, rfl⟩
    go_wp2
    go_quiet (fail)
    go_wp2_with fail
    refine (qn.out _ (HS.out.drewN _)).mono ?_
    rintro e w2 ⟨rfl, hs2, ht2⟩
    have S2 : Hid (SheetAt w2 B p g n W H 0 (Y1 : Int) false z1) := hs2
    have T2 : Hid (Touch w1 w2 [p, g]) := (touch_drewN (Touch.refl w1 _) _).trans ht2
    clear y0 y3 y4 y5
    have y0 : w2.cell? ⟨p, 0, none⟩ = some (.int .i64 W) := box_cell hs2.box rfl
    have y3 : w2.cell? ⟨p, 3, none⟩ = some (.int .i64 0) := box_cell hs2.box rfl
    have y4 : w2.cell? ⟨p, 4, none⟩ = some (.int .i64 Y1) := box_cell hs2.box rfl
    clear hs2 ht2
    go_wp2
    go_quiet (fail)
    go_wp2_with fail
    refine (qb.out _ _ _ _ (S2.out.drewN _)).mono ?_
    rintro e w3 ⟨rfl, hs3, ht3⟩
    have T3 : Hid (Touch w1 w3 [p, g]) := (touch_drewN T2.out _).trans ht3
    have S3 : Hid (SheetAt w3 B p g n W H 0 (Y1 : Int) false z2) := hs3
    have y2 : w3.cell? ⟨p, 2, none⟩ = some (.slice (some ⟨g, 0, none⟩) n n) := box_cell hs3.box rfl
    have hgx := (row_exact HFIT.out.2 hs3.row).2.1
    have hgl := box_lt hgx
    have hlen3 := hs3.len
    have hg4 : (w3.alloc (.cells #[.int .i64 (r - 32), .int .i64 (-33)] 3)).heap[g]? = some (.cells (z2.map (Value.int .i64)).toArray 3 (0, 0)) := (heap_alloc_old _ _ hgl).trans hgx
    have SP := sheet_put (a := a) (d := 1) (v := r - 32) (h := -33) S3.out HFIT.out.2 (by omega) HFIT.out.1 (.cells #[.int .i64 (r - 32), .int .i64 (-33)] 3)
    have HSP : Hid (SheetAt ((w3.alloc (.cells #[.int .i64 (r - 32), .int .i64 (-33)] 3)).setRow g ((z2.map (Value.int .i64)).take a ++ ((([r - 32, -33].map (Value.int .i64)).take 1) ++ (z2.map (Value.int .i64)).drop (a + (([r - 32, -33].map (Value.int .i64)).take 1).length))).toArray) B p g n W H 0 (Y1 : Int) false (putZ a 1 (r - 32) (-33) z2) ∧ Touch w3 ((w3.alloc (.cells #[.int .i64 (r - 32), .int .i64 (-33)] 3)).setRow g ((z2.map (Value.int .i64)).take a ++ ((([r - 32, -33].map (Value.int .i64)).take 1) ++ (z2.map (Value.int .i64)).drop (a + (([r - 32, -33].map (Value.int .i64)).take 1).length))).toArray) [p, g]) := SP
    obtain ⟨V, hV⟩ : ∃ V, V = ((w3.alloc (.cells #[.int .i64 (r - 32), .int .i64 (-33)] 3)).setRow g ((z2.map (Value.int .i64)).take a ++ ((([r - 32, -33].map (Value.int .i64)).take 1) ++ (z2.map (Value.int .i64)).drop (a + (([r - 32, -33].map (Value.int .i64)).take 1).length))).toArray) := ⟨_, rfl⟩
    have hcp : (Builtin.copy_ #[22, 22] 3 #[.slice (some ⟨g, a, none⟩) 1 (n - a), .slice (some ⟨w3.heap.size, 0, none⟩) 2 2]).run Try.prog (w3.alloc (.cells #[.int .i64 (r - 32), .int .i64 (-33)] 3)) = .ok (goInt 1) V := by
      rw [hV]
      have h9 := run_copy_row (P := Try.prog) (w3.alloc (.cells #[.int .i64 (r - 32), .int .i64 (-33)] 3)) 22 22 3 3 g a 1 (n - a) ⟨w3.heap.size, 0, none⟩ 2 2 (z2.map (Value.int .i64)).toArray 3 (([r - 32, -33].map (Value.int .i64)).take 1) Try.underlying22 (by kernel_rfl) hg4 rfl lit_src (by have h1 := HFIT.out.1; simp [hlen3] <;> omega) (by intro v hv; simp at hv; first | (rcases hv with rfl | rfl <;> rfl) | (subst hv; rfl))
      rw [List.append_assoc] at h9
      exact h9
    have SV : Hid (SheetAt V B p g n W H 0 (Y1 : Int) false (putZ a 1 (r - 32) (-33) z2) ∧ Touch w3 V [p, g]) := by rw [hV]; exact HSP.out
    clear SP hs3 ht3 y0 y3 y4 hgx hgl hg4 hlen3 hV HSP
    go_wp2_with fail
    refine (qo.out _ _ _ SV.out.1).mono ?_
    rintro e w5 ⟨rfl, hs5, ht5⟩
    have S5 : Hid (_ ∧ _) := ⟨hs5, (T3.out.trans SV.out.2).trans ht5⟩
    clear hs5 ht5
    go_wp2
    refine bodyPost_end (v := .tuple #[]) (by simp [results, Try.results24, go_sem]) rfl ⟨rfl, S5.out.1, S5.out.2⟩
  · subst k1
    subst k2
    subst k3
    subst k4
    have dk : decide ((W : Int) < (X1 : Int) + 1) = false := decide_eq_false (by omega)
    clear k0 HX1 HAX
    go_enter Try.func24, Try.ntmps24
    go_wp2_with fail
    refine (qw.out _).mono ?_
    rintro e w1 ⟨rfl, rfl⟩
    go_wp2
    go_quiet (fail)
    go_wp2
    go_quiet (fail)
    go_wp2_with fail
    refine (qb.out _ _ _ _ (HS.out.drewN _)).mono ?_
    rintro e w3 ⟨rfl, hs3, ht3⟩
    have T3 : Hid (Touch w1 w3 [p, g]) := (touch_drewN (Touch.refl w1 _) _).trans ht3
    have S3 : Hid (SheetAt w3 B p g n W H (X1 : Int) (Y1 : Int) false z2) := hs3
    have y2 : w3.cell? ⟨p, 2, none⟩ = some (.slice (some ⟨g, 0, none⟩) n n) := box_cell hs3.box rfl
    have hgx := (row_exact HFIT.out.2 hs3.row).2.1
    have hgl := box_lt hgx
    have hlen3 := hs3.len
    have hg4 : (w3.alloc (.cells #[.int .i64 (r - 32), .int .i64 (-33)] 3)).heap[g]? = some (.cells (z2.map (Value.int .i64)).toArray 3 (0, 0)) := (heap_alloc_old _ _ hgl).trans hgx
    have SP := sheet_put (a := a) (d := 1) (v := r - 32) (h := -33) S3.out HFIT.out.2 (by omega) HFIT.out.1 (.cells #[.int .i64 (r - 32), .int .i64 (-33)] 3)
    have HSP : Hid (SheetAt ((w3.alloc (.cells #[.int .i64 (r - 32), .int .i64 (-33)] 3)).setRow g ((z2.map (Value.int .i64)).take a ++ ((([r - 32, -33].map (Value.int .i64)).take 1) ++ (z2.map (Value.int .i64)).drop (a + (([r - 32, -33].map (Value.int .i64)).take 1).length))).toArray) B p g n W H (X1 : Int) (Y1 : Int) false (putZ a 1 (r - 32) (-33) z2) ∧ Touch w3 ((w3.alloc (.cells #[.int .i64 (r - 32), .int .i64 (-33)] 3)).setRow g ((z2.map (Value.int .i64)).take a ++ ((([r - 32, -33].map (Value.int .i64)).take 1) ++ (z2.map (Value.int .i64)).drop (a + (([r - 32, -33].map (Value.int .i64)).take 1).length))).toArray) [p, g]) := SP
    obtain ⟨V, hV⟩ : ∃ V, V = ((w3.alloc (.cells #[.int .i64 (r - 32), .int .i64 (-33)] 3)).setRow g ((z2.map (Value.int .i64)).take a ++ ((([r - 32, -33].map (Value.int .i64)).take 1) ++ (z2.map (Value.int .i64)).drop (a + (([r - 32, -33].map (Value.int .i64)).take 1).length))).toArray) := ⟨_, rfl⟩
    have hcp : (Builtin.copy_ #[22, 22] 3 #[.slice (some ⟨g, a, none⟩) 1 (n - a), .slice (some ⟨w3.heap.size, 0, none⟩) 2 2]).run Try.prog (w3.alloc (.cells #[.int .i64 (r - 32), .int .i64 (-33)] 3)) = .ok (goInt 1) V := by
      rw [hV]
      have h9 := run_copy_row (P := Try.prog) (w3.alloc (.cells #[.int .i64 (r - 32), .int .i64 (-33)] 3)) 22 22 3 3 g a 1 (n - a) ⟨w3.heap.size, 0, none⟩ 2 2 (z2.map (Value.int .i64)).toArray 3 (([r - 32, -33].map (Value.int .i64)).take 1) Try.underlying22 (by kernel_rfl) hg4 rfl lit_src (by have h1 := HFIT.out.1; simp [hlen3] <;> omega) (by intro v hv; simp at hv; first | (rcases hv with rfl | rfl <;> rfl) | (subst hv; rfl))
      rw [List.append_assoc] at h9
      exact h9
    have SV : Hid (SheetAt V B p g n W H (X1 : Int) (Y1 : Int) false (putZ a 1 (r - 32) (-33) z2) ∧ Touch w3 V [p, g]) := by rw [hV]; exact HSP.out
    clear SP hs3 ht3 y0 y3 y4 hgx hgl hg4 hlen3 hV HSP y5
    go_wp2_with fail
    refine (qo.out _ _ _ SV.out.1).mono ?_
    rintro e w5 ⟨rfl, hs5, ht5⟩
    have S5 : Hid (_ ∧ _) := ⟨hs5, (T3.out.trans SV.out.2).trans ht5⟩
    clear hs5 ht5
    go_wp2
    refine bodyPost_end (v := .tuple #[]) (by simp [results, Try.results24, go_sem]) rfl ⟨rfl, S5.out.1, S5.out.2⟩

set_option maxRecDepth 100000 in
set_option maxHeartbeats 4000000 in
theorem put_2 (p g n B W : Nat) (H X Y r : Int) (wr : Bool) (zs : List Int) (w : World) (hs : SheetAt w B p g n W H X Y wr zs) (hW : 2 ≤ W) (hW2 : W ≤ 200) (hWn : W ≤ n) (hn : n ≤ 8000) (hH : 1 ≤ H) (hH2 : H ≤ 200) (hX : 0 ≤ X) (hX2 : X < W) (hY : 0 ≤ Y) (hY2 : Y < H) (hw : wd r = 2) (hr : 32 ≤ r ∧ r ≤ 1114111) (X1 Y1 : Nat) (z1 : List Int) (XN : Int) (bN : Bool) (hXN : (if (X1 : Int) + 2 = W then (X1 : Int) + 2 - 1 else (X1 : Int) + 2) = XN) (hbN : (if (X1 : Int) + 2 = W then true else false) = bN) (h0 : at0 z1 0 ≠ -33) (hfit : Y1 * W + X1 + 2 ≤ n) (hXY : X1 ≤ 200 ∧ Y1 ≤ 200)
    (hb : ((wr = true ∨ (wr = false ∧ (W : Int) < X + 2)) ∧ X1 = 0 ∧ clampG (Y + 1) H = (Y1 : Int) ∧ z1 = (if Y = H - 1 then scr 0 W zs else zs)) ∨ (wr = false ∧ X + 2 ≤ (W : Int) ∧ X = (X1 : Int) ∧ Y = (Y1 : Int) ∧ z1 = zs)) :
    Calls Try.prog 24 #[.pointer (some ⟨p, 0, none⟩), .int .i64 r] w fun e w' => e = .returned (.tuple #[]) ∧ SheetAt w' B p g n W H XN Y1 bN (putZ (Y1 * W + X1) 2 (r - 32) (-33) (clrZ (-33) 0 ((Y1 * W + X1 : Nat) : Int) ((Y1 * W + X1 + 2 : Nat) : Int) z1)) ∧ Touch w w' [p, g] := by
  have qw : Hid (∀ w', Calls Try.prog 37 #[.int .i64 r] w' fun e w'' => e = .returned (.int .i64 2) ∧ w'' = w') := fun w' => by rw [← hw]; exact implWid_any r w'
  have HS : Hid (SheetAt w B p g n W H X Y wr zs) := hs
  have hlz : z1.length = n := by
    rcases hb with ⟨_, _, _, h⟩ | ⟨_, _, _, _, h⟩
    · rw [h]; split
      · rw [scr_len (by rw [hs.len]; exact hWn)]; exact hs.len
      · exact hs.len
    · rw [h]; exact hs.len
  obtain ⟨pp, hpp⟩ : ∃ pp, pp = Y1 * W := ⟨_, rfl⟩
  obtain ⟨a, ha⟩ : ∃ a, a = Y1 * W + X1 := ⟨_, rfl⟩
  have hpi : (Y1 : Int) * (W : Int) = (pp : Int) := by rw [hpp]; simp
  have hai : (pp : Int) + (X1 : Int) = (a : Int) := by rw [ha, hpp]; simp
  rw [← ha] at hfit ⊢
  have HAX : Hid (a = pp + X1) := by show _ = _; rw [ha, hpp]
  have HX1 : Hid (X1 = 0 → a = pp) := fun h => by rw [ha, hpp, h]; rfl
  have wpp : IntKind.i64.wrap (pp : Int) = (pp : Int) := wrap_i64_in _ (by omega) (by omega)
  have wa : IntKind.i64.wrap (a : Int) = (a : Int) := wrap_i64_in _ (by omega) (by omega)
  have wa1 : IntKind.i64.wrap ((a : Int) + 2) = (a : Int) + 2 := wrap_i64_in _ (by omega) (by omega)
  have wr32 : IntKind.i64.wrap (r - 32) = r - 32 := wrap_i64_in _ (by omega) (by omega)
  have ea : ((a + 2 : Nat) : Int) = (a : Int) + 2 := by simp
  have qb : Hid (∀ w' X' Y' wr', SheetAt w' B p g n W H X' Y' wr' z1 → Calls Try.prog 39 #[.pointer (some ⟨p, 0, none⟩), .int .i64 (a : Int), .int .i64 ((a : Int) + 2)] w' fun e w'' => e = .returned (.tuple #[]) ∧ SheetAt w'' B p g n W H X' Y' wr' (clrZ (-33) 0 (a : Int) ((a + 2 : Nat) : Int) z1) ∧ Touch w' w'' [p, g]) := fun w' X' Y' wr' h => by
    rw [ea]; exact blank_any p g n B W H X' Y' (a : Int) ((a : Int) + 2) wr' z1 w' h hn (by omega) h0
  obtain ⟨z2, hz2⟩ : ∃ z2, z2 = clrZ (-33) 0 (a : Int) ((a + 2 : Nat) : Int) z1 := ⟨_, rfl⟩
  rw [← hz2] at qb ⊢
  have qo : Hid (∀ w' Y' zz, SheetAt w' B p g n W H (X1 : Int) Y' false zz → Calls Try.prog 40 #[.pointer (some ⟨p, 0, none⟩), .int .i64 2] w' fun e w'' => e = .returned (.tuple #[]) ∧ SheetAt w'' B p g n W H XN Y' bN zz ∧ Touch w' w'' [p, g]) := fun w' Y' zz h => by
    rw [← hXN, ← hbN]; exact goOn_any p g n B W H X1 Y' 2 false zz w' h (by omega) (by omega) (by omega) (by omega)
  have HFIT : Hid (a + 2 ≤ n ∧ 0 < n) := ⟨hfit, by omega⟩
  have fa1 : (a : Int) ≤ (a : Int) + 2 := by omega
  have fa2 : (a : Int) + 2 ≤ (n : Int) := by omega
  have fa3 : ¬ n = a := by omega
  have fa4 : ((a : Int) + 2).toNat = a + 2 := by omega
  have y0 : w.cell? ⟨p, 0, none⟩ = some (.int .i64 W) := box_cell hs.box rfl
  have y3 : w.cell? ⟨p, 3, none⟩ = some (.int .i64 X) := box_cell hs.box rfl
  have y4 : w.cell? ⟨p, 4, none⟩ = some (.int .i64 Y) := box_cell hs.box rfl
  have y5 : w.cell? ⟨p, 5, none⟩ = some (.bool wr) := box_cell hs.box rfl
  have wXd : IntKind.i64.wrap (X + 2) = X + 2 := wrap_i64_in _ (by omega) (by omega)
  clear hs hw hz2 h0 hlz ea ha hpp hr hXN hbN
  have h3 : (wr = true ∧ X1 = 0 ∧ clampG (Y + 1) H = (Y1 : Int) ∧ z1 = (if Y = H - 1 then scr 0 W zs else zs)) ∨ (wr = false ∧ (W : Int) < X + 2 ∧ X1 = 0 ∧ clampG (Y + 1) H = (Y1 : Int) ∧ z1 = (if Y = H - 1 then scr 0 W zs else zs)) ∨ (wr = false ∧ X + 2 ≤ (W : Int) ∧ X = (X1 : Int) ∧ Y = (Y1 : Int) ∧ z1 = zs) := by
    rcases hb with ⟨h | ⟨h, h'⟩, h2⟩ | h
    · exact .inl ⟨h, h2⟩
    · exact .inr (.inl ⟨h, h', h2⟩)
    · exact .inr (.inr h)
  clear hb
  rcases h3 with ⟨k1, k2, k3, k4⟩ | ⟨k1, k0, k2, k3, k4⟩ | ⟨k1, k0, k2, k3, k4⟩
  · subst k1
    subst k2
    obtain rfl : a = pp := HX1.out rfl
    have qn : Hid (∀ w', SheetAt w' B p g n W H X Y true zs → Calls Try.prog 38 #[.pointer (some ⟨p, 0, none⟩), .int .i64 0] w' fun e w'' => e = .returned (.tuple #[]) ∧ SheetAt w'' B p g n W H 0 (Y1 : Int) false z1 ∧ Touch w' w'' [p, g]) := fun w' h => by
      rw [k4, ← k3]; have h7 := goDown_any p g n B W H X Y 0 _ zs w' h hW hW2 hWn hn hH hH2 hY hY2; rw [show clampG 0 (W : Int) = 0 from by unfold clampG; omega] at h7; exact h7
    clear k3 k4 hai HX1 HAX
    go_enter Try.func24, Try.ntmps24
    go_wp2_with fail
    refine (qw.out _).mono ?_
    rintro e w1 ⟨rfl, rfl⟩
    go_wp2
    go_quiet (fail)
    go_wp2_with fail
    refine (qn.out _ (HS.out.drewN _)).mono ?_
    rintro e w2 ⟨rfl, hs2, ht2⟩
    have S2 : Hid (SheetAt w2 B p g n W H 0 (Y1 : Int) false z1) := hs2
    have T2 : Hid (Touch w1 w2 [p, g]) := (touch_drewN (Touch.refl w1 _) _).trans ht2
    clear y0 y3 y4 y5
    have y0 : w2.cell? ⟨p, 0, none⟩ = some (.int .i64 W) := box_cell hs2.box rfl
    have y3 : w2.cell? ⟨p, 3, none⟩ = some (.int .i64 0) := box_cell hs2.box rfl
    have y4 : w2.cell? ⟨p, 4, none⟩ = some (.int .i64 Y1) := box_cell hs2.box rfl
    clear hs2 ht2
    go_wp2
    go_quiet (fail)
    go_wp2_with fail
    refine (qb.out _ _ _ _ (S2.out.drewN _)).mono ?_
    rintro e w3 ⟨rfl, hs3, ht3⟩
    have T3 : Hid (Touch w1 w3 [p, g]) := (touch_drewN T2.out _).trans ht3
    have S3 : Hid (SheetAt w3 B p g n W H 0 (Y1 : Int) false z2) := hs3
    have y2 : w3.cell? ⟨p, 2, none⟩ = some (.slice (some ⟨g, 0, none⟩) n n) := box_cell hs3.box rfl
    have hgx := (row_exact HFIT.out.2 hs3.row).2.1
    have hgl := box_lt hgx
    have hlen3 := hs3.len
    have hg4 : (w3.alloc (.cells #[.int .i64 (r - 32), .int .i64 (-33)] 3)).heap[g]? = some (.cells (z2.map (Value.int .i64)).toArray 3 (0, 0)) := (heap_alloc_old _ _ hgl).trans hgx
    have SP := sheet_put (a := a) (d := 2) (v := r - 32) (h := -33) S3.out HFIT.out.2 (by omega) HFIT.out.1 (.cells #[.int .i64 (r - 32), .int .i64 (-33)] 3)
    have HSP : Hid (SheetAt ((w3.alloc (.cells #[.int .i64 (r - 32), .int .i64 (-33)] 3)).setRow g ((z2.map (Value.int .i64)).take a ++ ((([r - 32, -33].map (Value.int .i64)).take 2) ++ (z2.map (Value.int .i64)).drop (a + (([r - 32, -33].map (Value.int .i64)).take 2).length))).toArray) B p g n W H 0 (Y1 : Int) false (putZ a 2 (r - 32) (-33) z2) ∧ Touch w3 ((w3.alloc (.cells #[.int .i64 (r - 32), .int .i64 (-33)] 3)).setRow g ((z2.map (Value.int .i64)).take a ++ ((([r - 32, -33].map (Value.int .i64)).take 2) ++ (z2.map (Value.int .i64)).drop (a + (([r - 32, -33].map (Value.int .i64)).take 2).length))).toArray) [p, g]) := SP
    obtain ⟨V, hV⟩ : ∃ V, V = ((w3.alloc (.cells #[.int .i64 (r - 32), .int .i64 (-33)] 3)).setRow g ((z2.map (Value.int .i64)).take a ++ ((([r - 32, -33].map (Value.int .i64)).take 2) ++ (z2.map (Value.int .i64)).drop (a + (([r - 32, -33].map (Value.int .i64)).take 2).length))).toArray) := ⟨_, rfl⟩
    have hcp : (Builtin.copy_ #[22, 22] 3 #[.slice (some ⟨g, a, none⟩) 2 (n - a), .slice (some ⟨w3.heap.size, 0, none⟩) 2 2]).run Try.prog (w3.alloc (.cells #[.int .i64 (r - 32), .int .i64 (-33)] 3)) = .ok (goInt 2) V := by
      rw [hV]
      have h9 := run_copy_row (P := Try.prog) (w3.alloc (.cells #[.int .i64 (r - 32), .int .i64 (-33)] 3)) 22 22 3 3 g a 2 (n - a) ⟨w3.heap.size, 0, none⟩ 2 2 (z2.map (Value.int .i64)).toArray 3 (([r - 32, -33].map (Value.int .i64)).take 2) Try.underlying22 (by kernel_rfl) hg4 rfl lit_src (by have h1 := HFIT.out.1; simp [hlen3] <;> omega) (by intro v hv; simp at hv; first | (rcases hv with rfl | rfl <;> rfl) | (subst hv; rfl))
      rw [List.append_assoc] at h9
      exact h9
    have SV : Hid (SheetAt V B p g n W H 0 (Y1 : Int) false (putZ a 2 (r - 32) (-33) z2) ∧ Touch w3 V [p, g]) := by rw [hV]; exact HSP.out
    clear SP hs3 ht3 y0 y3 y4 hgx hgl hg4 hlen3 hV HSP
    go_wp2_with fail
    refine (qo.out _ _ _ SV.out.1).mono ?_
    rintro e w5 ⟨rfl, hs5, ht5⟩
    have S5 : Hid (_ ∧ _) := ⟨hs5, (T3.out.trans SV.out.2).trans ht5⟩
    clear hs5 ht5
    go_wp2
    refine bodyPost_end (v := .tuple #[]) (by simp [results, Try.results24, go_sem]) rfl ⟨rfl, S5.out.1, S5.out.2⟩
  · subst k1
    subst k2
    obtain rfl : a = pp := HX1.out rfl
    have qn : Hid (∀ w', SheetAt w' B p g n W H X Y false zs → Calls Try.prog 38 #[.pointer (some ⟨p, 0, none⟩), .int .i64 0] w' fun e w'' => e = .returned (.tuple #[]) ∧ SheetAt w'' B p g n W H 0 (Y1 : Int) false z1 ∧ Touch w' w'' [p, g]) := fun w' h => by
      rw [k4, ← k3]; have h7 := goDown_any p g n B W H X Y 0 _ zs w' h hW hW2 hWn hn hH hH2 hY hY2; rw [show clampG 0 (W : Int) = 0 from by unfold clampG; omega] at h7; exact h7
    have dk : decide ((W : Int) < X + 2) = true := decide_eq_true k0
    clear k3 k4 hai HX1 HAX k0
    go_enter Try.func24, Try.ntmps24
    go_wp2_with fail
    refine (qw.out _).mono ?_
    rintro e w1 ⟨rfl, rfl⟩
    go_wp2
    go_quiet (fail)
    go_wp2_with fail
    refine (qn.out _ (HS.out.drewN _)).mono ?_
    rintro e w2 ⟨rfl, hs2, ht2⟩
    have S2 : Hid (SheetAt w2 B p g n W H 0 (Y1 : Int) false z1) := hs2
    have T2 : Hid (Touch w1 w2 [p, g]) := (touch_drewN (Touch.refl w1 _) _).trans ht2
    clear y0 y3 y4 y5
    have y0 : w2.cell? ⟨p, 0, none⟩ = some (.int .i64 W) := box_cell hs2.box rfl
    have y3 : w2.cell? ⟨p, 3, none⟩ = some (.int .i64 0) := box_cell hs2.box rfl
    have y4 : w2.cell? ⟨p, 4, none⟩ = some (.int .i64 Y1) := box_cell hs2.box rfl
    clear hs2 ht2
    go_wp2
    go_quiet (fail)
    go_wp2_with fail
    refine (qb.out _ _ _ _ (S2.out.drewN _)).mono ?_
    rintro e w3 ⟨rfl, hs3, ht3⟩
    have T3 : Hid (Touch w1 w3 [p, g]) := (touch_drewN T2.out _).trans ht3
    have S3 : Hid (SheetAt w3 B p g n W H 0 (Y1 : Int) false z2) := hs3
    have y2 : w3.cell? ⟨p, 2, none⟩ = some (.slice (some ⟨g, 0, none⟩) n n) := box_cell hs3.box rfl
    have hgx := (row_exact HFIT.out.2 hs3.row).2.1
    have hgl := box_lt hgx
    have hlen3 := hs3.len
    have hg4 : (w3.alloc (.cells #[.int .i64 (r - 32), .int .i64 (-33)] 3)).heap[g]? = some (.cells (z2.map (Value.int .i64)).toArray 3 (0, 0)) := (heap_alloc_old _ _ hgl).trans hgx
    have SP := sheet_put (a := a) (d := 2) (v := r - 32) (h := -33) S3.out HFIT.out.2 (by omega) HFIT.out.1 (.cells #[.int .i64 (r - 32), .int .i64 (-33)] 3)
    have HSP : Hid (SheetAt ((w3.alloc (.cells #[.int .i64 (r - 32), .int .i64 (-33)] 3)).setRow g ((z2.map (Value.int .i64)).take a ++ ((([r - 32, -33].map (Value.int .i64)).take 2) ++ (z2.map (Value.int .i64)).drop (a + (([r - 32, -33].map (Value.int .i64)).take 2).length))).toArray) B p g n W H 0 (Y1 : Int) false (putZ a 2 (r - 32) (-33) z2) ∧ Touch w3 ((w3.alloc (.cells #[.int .i64 (r - 32), .int .i64 (-33)] 3)).setRow g ((z2.map (Value.int .i64)).take a ++ ((([r - 32, -33].map (Value.int .i64)).take 2) ++ (z2.map (Value.int .i64)).drop (a + (([r - 32, -33].map (Value.int .i64)).take 2).length))).toArray) [p, g]) := SP
    obtain ⟨V, hV⟩ : ∃ V, V = ((w3.alloc (.cells #[.int .i64 (r - 32), .int .i64 (-33)] 3)).setRow g ((z2.map (Value.int .i64)).take a ++ ((([r - 32, -33].map (Value.int .i64)).take 2) ++ (z2.map (Value.int .i64)).drop (a + (([r - 32, -33].map (Value.int .i64)).take 2).length))).toArray) := ⟨_, rfl⟩
    have hcp : (Builtin.copy_ #[22, 22] 3 #[.slice (some ⟨g, a, none⟩) 2 (n - a), .slice (some ⟨w3.heap.size, 0, none⟩) 2 2]).run Try.prog (w3.alloc (.cells #[.int .i64 (r - 32), .int .i64 (-33)] 3)) = .ok (goInt 2) V := by
      rw [hV]
      have h9 := run_copy_row (P := Try.prog) (w3.alloc (.cells #[.int .i64 (r - 32), .int .i64 (-33)] 3)) 22 22 3 3 g a 2 (n - a) ⟨w3.heap.size, 0, none⟩ 2 2 (z2.map (Value.int .i64)).toArray 3 (([r - 32, -33].map (Value.int .i64)).take 2) Try.underlying22 (by kernel_rfl) hg4 rfl lit_src (by have h1 := HFIT.out.1; simp [hlen3] <;> omega) (by intro v hv; simp at hv; first | (rcases hv with rfl | rfl <;> rfl) | (subst hv; rfl))
      rw [List.append_assoc] at h9
      exact h9
    have SV : Hid (SheetAt V B p g n W H 0 (Y1 : Int) false (putZ a 2 (r - 32) (-33) z2) ∧ Touch w3 V [p, g]) := by rw [hV]; exact HSP.out
    clear SP hs3 ht3 y0 y3 y4 hgx hgl hg4 hlen3 hV HSP
    go_wp2_with fail
    refine (qo.out _ _ _ SV.out.1).mono ?_
    rintro e w5 ⟨rfl, hs5, ht5⟩
    have S5 : Hid (_ ∧ _) := ⟨hs5, (T3.out.trans SV.out.2).trans ht5⟩
    clear hs5 ht5
    go_wp2
    refine bodyPost_end (v := .tuple #[]) (by simp [results, Try.results24, go_sem]) rfl ⟨rfl, S5.out.1, S5.out.2⟩
  · subst k1
    subst k2
    subst k3
    subst k4
    have dk : decide ((W : Int) < (X1 : Int) + 2) = false := decide_eq_false (by omega)
    clear k0 HX1 HAX
    go_enter Try.func24, Try.ntmps24
    go_wp2_with fail
    refine (qw.out _).mono ?_
    rintro e w1 ⟨rfl, rfl⟩
    go_wp2
    go_quiet (fail)
    go_wp2
    go_quiet (fail)
    go_wp2_with fail
    refine (qb.out _ _ _ _ (HS.out.drewN _)).mono ?_
    rintro e w3 ⟨rfl, hs3, ht3⟩
    have T3 : Hid (Touch w1 w3 [p, g]) := (touch_drewN (Touch.refl w1 _) _).trans ht3
    have S3 : Hid (SheetAt w3 B p g n W H (X1 : Int) (Y1 : Int) false z2) := hs3
    have y2 : w3.cell? ⟨p, 2, none⟩ = some (.slice (some ⟨g, 0, none⟩) n n) := box_cell hs3.box rfl
    have hgx := (row_exact HFIT.out.2 hs3.row).2.1
    have hgl := box_lt hgx
    have hlen3 := hs3.len
    have hg4 : (w3.alloc (.cells #[.int .i64 (r - 32), .int .i64 (-33)] 3)).heap[g]? = some (.cells (z2.map (Value.int .i64)).toArray 3 (0, 0)) := (heap_alloc_old _ _ hgl).trans hgx
    have SP := sheet_put (a := a) (d := 2) (v := r - 32) (h := -33) S3.out HFIT.out.2 (by omega) HFIT.out.1 (.cells #[.int .i64 (r - 32), .int .i64 (-33)] 3)
    have HSP : Hid (SheetAt ((w3.alloc (.cells #[.int .i64 (r - 32), .int .i64 (-33)] 3)).setRow g ((z2.map (Value.int .i64)).take a ++ ((([r - 32, -33].map (Value.int .i64)).take 2) ++ (z2.map (Value.int .i64)).drop (a + (([r - 32, -33].map (Value.int .i64)).take 2).length))).toArray) B p g n W H (X1 : Int) (Y1 : Int) false (putZ a 2 (r - 32) (-33) z2) ∧ Touch w3 ((w3.alloc (.cells #[.int .i64 (r - 32), .int .i64 (-33)] 3)).setRow g ((z2.map (Value.int .i64)).take a ++ ((([r - 32, -33].map (Value.int .i64)).take 2) ++ (z2.map (Value.int .i64)).drop (a + (([r - 32, -33].map (Value.int .i64)).take 2).length))).toArray) [p, g]) := SP
    obtain ⟨V, hV⟩ : ∃ V, V = ((w3.alloc (.cells #[.int .i64 (r - 32), .int .i64 (-33)] 3)).setRow g ((z2.map (Value.int .i64)).take a ++ ((([r - 32, -33].map (Value.int .i64)).take 2) ++ (z2.map (Value.int .i64)).drop (a + (([r - 32, -33].map (Value.int .i64)).take 2).length))).toArray) := ⟨_, rfl⟩
    have hcp : (Builtin.copy_ #[22, 22] 3 #[.slice (some ⟨g, a, none⟩) 2 (n - a), .slice (some ⟨w3.heap.size, 0, none⟩) 2 2]).run Try.prog (w3.alloc (.cells #[.int .i64 (r - 32), .int .i64 (-33)] 3)) = .ok (goInt 2) V := by
      rw [hV]
      have h9 := run_copy_row (P := Try.prog) (w3.alloc (.cells #[.int .i64 (r - 32), .int .i64 (-33)] 3)) 22 22 3 3 g a 2 (n - a) ⟨w3.heap.size, 0, none⟩ 2 2 (z2.map (Value.int .i64)).toArray 3 (([r - 32, -33].map (Value.int .i64)).take 2) Try.underlying22 (by kernel_rfl) hg4 rfl lit_src (by have h1 := HFIT.out.1; simp [hlen3] <;> omega) (by intro v hv; simp at hv; first | (rcases hv with rfl | rfl <;> rfl) | (subst hv; rfl))
      rw [List.append_assoc] at h9
      exact h9
    have SV : Hid (SheetAt V B p g n W H (X1 : Int) (Y1 : Int) false (putZ a 2 (r - 32) (-33) z2) ∧ Touch w3 V [p, g]) := by rw [hV]; exact HSP.out
    clear SP hs3 ht3 y0 y3 y4 hgx hgl hg4 hlen3 hV HSP y5
    go_wp2_with fail
    refine (qo.out _ _ _ SV.out.1).mono ?_
    rintro e w5 ⟨rfl, hs5, ht5⟩
    have S5 : Hid (_ ∧ _) := ⟨hs5, (T3.out.trans SV.out.2).trans ht5⟩
    clear hs5 ht5
    go_wp2
    refine bodyPost_end (v := .tuple #[]) (by simp [results, Try.results24, go_sem]) rfl ⟨rfl, S5.out.1, S5.out.2⟩

end Go.Proofs.Ytmiggbdlhajkiaa
