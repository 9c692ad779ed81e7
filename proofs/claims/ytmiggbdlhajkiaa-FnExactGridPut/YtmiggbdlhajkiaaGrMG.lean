/-
  The sheet's goOn and goDown.
-/
import Derived.Test.YtmiggbdlhajkiaaGrMS
namespace Go.Proofs.Ytmiggbdlhajkiaa
open Go.RowKit
set_option linter.unusedVariables false
set_option linter.unusedSimpArgs false

theorem belowD' {B : Nat} {w w' : World} (h : Below B w w') (q : Nat) : Below B w (w'.drewN q) := by
  induction q with
  | zero => exact h
  | succ q ih => exact ih.drew

theorem SheetAt.setX {w : World} {B p g n : Nat} {W H X Y : Int} {wr : Bool} {zs : List Int} (h : SheetAt w B p g n W H X Y wr zs) (X' : Int) : SheetAt (w.setCell ⟨p, 3, none⟩ (.int .i64 X')) B p g n W H X' Y wr zs :=
  ⟨by have := box_set (j := 3) (.int .i64 X') h.box; simpa using this, own_off h.row p 3 _ h.ne, h.len, h.lo, h.ne⟩
theorem SheetAt.setWr {w : World} {B p g n : Nat} {W H X Y : Int} {wr : Bool} {zs : List Int} (h : SheetAt w B p g n W H X Y wr zs) (v : Bool) : SheetAt (w.setCell ⟨p, 5, none⟩ (.bool v)) B p g n W H X Y v zs :=
  ⟨by have := box_set (j := 5) (.bool v) h.box; simpa using this, own_off h.row p 5 _ h.ne, h.len, h.lo, h.ne⟩
theorem SheetAt.drewN {w : World} {B p g n : Nat} {W H X Y : Int} {wr : Bool} {zs : List Int} (h : SheetAt w B p g n W H X Y wr zs) (q : Nat) : SheetAt (w.drewN q) B p g n W H X Y wr zs :=
  h.later (belowD' (Below.refl _ _) q)
theorem touch_drewN {w w' : World} {F : List Nat} (h : Touch w w' F) (q : Nat) : Touch w (w'.drewN q) F := h.trans (Touch.of_below (belowD' (Below.refl _ _) q) F)
theorem SheetAt.eq {w : World} {B p g n : Nat} {W H X Y X' Y' : Int} {wr wr' : Bool} {zs zs' : List Int} (h : SheetAt w B p g n W H X Y wr zs) (e1 : X = X') (e2 : Y = Y') (e3 : wr = wr') (e4 : zs = zs') : SheetAt w B p g n W H X' Y' wr' zs' := by
  subst e1 e2 e3 e4; exact h

set_option maxRecDepth 100000 in
set_option maxHeartbeats 2000000 in
theorem goOn_any (p g n B : Nat) (W H X Y d : Int) (wr : Bool) (zs : List Int) (w : World) (hs : SheetAt w B p g n W H X Y wr zs) (hX : 0 ≤ X) (hX2 : X ≤ 1000) (hd : 0 ≤ d) (hd2 : d ≤ 2) :
    Calls Try.prog 40 #[.pointer (some ⟨p, 0, none⟩), .int .i64 d] w fun e w' => e = .returned (.tuple #[]) ∧ SheetAt w' B p g n W H (if X + d = W then X + d - 1 else X + d) Y (if X + d = W then true else wr) zs ∧ Touch w w' [p, g] := by
  obtain ⟨X2, hX2'⟩ : ∃ X2, X + d = X2 := ⟨_, rfl⟩
  rw [hX2']
  have y0 : w.cell? ⟨p, 0, none⟩ = some (.int .i64 W) := box_cell hs.box rfl
  have y3 : w.cell? ⟨p, 3, none⟩ = some (.int .i64 X) := box_cell hs.box rfl
  have f3 : w.frozen? ⟨p, 3, none⟩ = false := box_frozen hs.box
  have h1 := (hs.setX X2)
  have z0 : (w.setCell ⟨p, 3, none⟩ (.int .i64 X2)).cell? ⟨p, 0, none⟩ = some (.int .i64 W) := box_cell h1.box rfl
  have z3 : (w.setCell ⟨p, 3, none⟩ (.int .i64 X2)).cell? ⟨p, 3, none⟩ = some (.int .i64 X2) := box_cell h1.box rfl
  have z5 : ∀ q, (((w.setCell ⟨p, 3, none⟩ (.int .i64 X2)).drewN q).setCell ⟨p, 3, none⟩ (.int .i64 (X2 - 1))).cell? ⟨p, 5, none⟩ = some (.bool wr) := fun q => box_cell ((h1.drewN q).setX (X2 - 1)).box rfl
  have zf3 : (w.setCell ⟨p, 3, none⟩ (.int .i64 X2)).frozen? ⟨p, 3, none⟩ = false := box_frozen h1.box
  have zf5 : ∀ q, (((w.setCell ⟨p, 3, none⟩ (.int .i64 X2)).drewN q).setCell ⟨p, 3, none⟩ (.int .i64 (X2 - 1))).frozen? ⟨p, 5, none⟩ = false := fun q => box_frozen ((h1.drewN q).setX (X2 - 1)).box
  have H1 : Hid (SheetAt (w.setCell ⟨p, 3, none⟩ (.int .i64 X2)) B p g n W H X2 Y wr zs) := h1
  have HT1 : Hid (Touch w (w.setCell ⟨p, 3, none⟩ (.int .i64 X2)) [p, g]) := Touch.set w p 3 _ (by simp)
  have HT3 : Hid (∀ q, Touch w ((((w.setCell ⟨p, 3, none⟩ (.int .i64 X2)).drewN q).setCell ⟨p, 3, none⟩ (.int .i64 (X2 - 1))).setCell ⟨p, 5, none⟩ (.bool true)) [p, g]) := fun q => ((touch_drewN HT1.out q).trans (Touch.set _ p 3 _ (by simp))).trans (Touch.set _ p 5 _ (by simp))
  have wX : IntKind.i64.wrap X2 = X2 := wrap_i64_in _ (by omega) (by omega)
  clear h1 hs
  by_cases he : X2 = W
  · have e1 : (X2 == W) = true := by simp [he]
    have wX1 : IntKind.i64.wrap (X2 - 1) = X2 - 1 := by simp [IntKind.wrap, IntKind.bits, IntKind.signed]; omega
    rw [if_pos he, if_pos he]
    clear he
    go_enter Try.func40, Try.ntmps40
    go_wp2
    go_quiet (fail)
    go_wp2
    refine bodyPost_end (v := .tuple #[]) (by simp [results, Try.results40, go_sem]) rfl ⟨rfl, ?_, HT3.out _⟩
    exact ((H1.out.drewN _).setX (X2 - 1)).setWr true
  · have e1 : (X2 == W) = false := by simpa using he
    rw [if_neg he, if_neg he]
    clear he
    go_enter Try.func40, Try.ntmps40
    go_wp2
    go_quiet (fail)
    go_wp2
    refine bodyPost_end (v := .tuple #[]) (by simp [results, Try.results40, go_sem]) rfl ⟨rfl, H1.out.drewN _, touch_drewN HT1.out _⟩

set_option maxRecDepth 100000 in
set_option maxHeartbeats 2000000 in
theorem goDown_any (p g n B W : Nat) (H X Y x : Int) (wr : Bool) (zs : List Int) (w : World) (hs : SheetAt w B p g n W H X Y wr zs) (hW : 2 ≤ W) (hW2 : W ≤ 200) (hWn : W ≤ n) (hn : n ≤ 8000) (hH : 1 ≤ H) (hH2 : H ≤ 200) (hY : 0 ≤ Y) (hY2 : Y < H) :
    Calls Try.prog 38 #[.pointer (some ⟨p, 0, none⟩), .int .i64 x] w fun e w' => e = .returned (.tuple #[]) ∧ SheetAt w' B p g n W H (clampG x (W : Int)) (clampG (Y + 1) H) false (if Y = H - 1 then scr 0 W zs else zs) ∧ Touch w w' [p, g] := by
  have y1 : w.cell? ⟨p, 1, none⟩ = some (.int .i64 H) := box_cell hs.box rfl
  have y4 : w.cell? ⟨p, 4, none⟩ = some (.int .i64 Y) := box_cell hs.box rfl
  have HS : Hid (SheetAt w B p g n W H X Y wr zs) := hs
  have wH : IntKind.i64.wrap (H - 1) = H - 1 := wrap_i64_in _ (by omega) (by omega)
  have wY : IntKind.i64.wrap (Y + 1) = Y + 1 := wrap_i64_in _ (by omega) (by omega)
  have qm : Hid (∀ w' zs', SheetAt w' B p g n W H X Y wr zs' → Calls Try.prog 47 #[.pointer (some ⟨p, 0, none⟩), .int .i64 x, .int .i64 (Y + 1)] w' fun e w'' => e = .returned (.tuple #[]) ∧ SheetAt w'' B p g n W H (clampG x (W : Int)) (clampG (Y + 1) H) false zs' ∧ Touch w' w'' [p]) := fun w' zs' h =>
    moveTo_any p g n B W H X Y x (Y + 1) wr zs' w' h (by omega) (by omega) (by omega) (by omega)
  clear hs
  by_cases he : Y = H - 1
  · have e1 : (Y == H - 1) = true := by simp [he]
    rw [if_pos he]
    have qs : Hid (∀ w', SheetAt w' B p g n W H X Y wr zs → Calls Try.prog 46 #[.pointer (some ⟨p, 0, none⟩)] w' fun e w'' => e = .returned (.tuple #[]) ∧ SheetAt w'' B p g n W H X Y wr (scr 0 W zs) ∧ Touch w' w'' [p, g]) := fun w' h => scroll_any p g n B W H X Y wr zs w' h hW hWn hn
    clear he
    go_enter Try.func38, Try.ntmps38
    go_wp2
    go_quiet (fail)
    go_wp2_with fail
    refine (qs.out _ (HS.out.drewN _)).mono ?_
    rintro e w2 ⟨rfl, hs2, ht2⟩
    have y4 : w2.cell? ⟨p, 4, none⟩ = some (.int .i64 Y) := box_cell hs2.box rfl
    have HS2 : Hid (SheetAt w2 B p g n W H X Y wr (scr 0 W zs)) := hs2
    have HT2 : Hid (Touch w w2 [p, g]) := (touch_drewN (Touch.refl w _) _).trans ht2
    clear hs2 ht2
    go_wp2_with fail
    refine (qm.out _ _ HS2.out).mono ?_
    rintro e w3 ⟨rfl, hs3, ht3⟩
    have HS3 : Hid (SheetAt w3 B p g n W H (clampG x (W : Int)) (clampG (Y + 1) H) false (scr 0 W zs)) := hs3
    have HT3 : Hid (Touch w w3 [p, g]) := HT2.out.trans (ht3.mono fun z hz => by simp at hz; simp [hz])
    clear hs3 ht3
    go_wp2
    refine bodyPost_end (v := .tuple #[]) (by simp [results, Try.results38, go_sem]) rfl ⟨rfl, HS3.out, HT3.out⟩
  · have e1 : (Y == H - 1) = false := by simpa using he
    rw [if_neg he]
    clear he
    go_enter Try.func38, Try.ntmps38
    go_wp2
    go_quiet (fail)
    go_wp2_with fail
    refine (qm.out _ _ (HS.out.drewN _)).mono ?_
    rintro e w3 ⟨rfl, hs3, ht3⟩
    have HS3 : Hid (SheetAt w3 B p g n W H (clampG x (W : Int)) (clampG (Y + 1) H) false zs) := hs3
    have ht4 := ht3.mono (G := [p, g]) fun z hz => by simp at hz; simp [hz]
    have HT3 : Hid (Touch w w3 [p, g]) := (touch_drewN (Touch.refl w _) _).trans ht4
    clear hs3 ht3 ht4
    go_wp2
    refine bodyPost_end (v := .tuple #[]) (by simp [results, Try.results38, go_sem]) rfl ⟨rfl, HS3.out, HT3.out⟩

end Go.Proofs.Ytmiggbdlhajkiaa
