/-
  RuneBegin, the program's: over the text of utf8.FullRune. By program (rbgigen.py).
-/
import Derived.Test.YtojalheohpkdoaaDoorRbgP
import Derived.Test.YtojalheohpkdoaaDoorTabs
import Derived.BigQuiet
namespace Go.Proofs.YtojalheohpkdoaaDoor
open Go.RowKit
set_option linter.unusedVariables false
set_option linter.unusedSimpArgs false

theorem box_cellU {w : World} {b j : Nat} {cs : Array Value} {t : TypeId} {v : Value} (h : w.heap[b]? = some (.cells cs t (0, 0))) (hv : cs[j]? = some v) : w.cell? ⟨b, j, none⟩ = some v := by
  rw [cell_of_row w b j cs t (0, 0) h]; exact hv
theorem cell_allocU (w : World) (o : Obj) (a : Addr) (h : a.block < w.heap.size) : (w.alloc o).cell? a = w.cell? a := ((Below.refl w.heap.size w).alloc (Nat.le_refl _) o).cell h

theorem bel_drU {B : Nat} {x w : World} (h : Below B x w) (q : Nat) : Below B x (w.drewN q) := ⟨h.os, h.tape, h.output, h.size, h.block⟩

set_option maxRecDepth 100000 in
set_option maxHeartbeats 4000000 in
theorem first_fin : ∀ c : Fin 256, ((Lib.firstT c.val : Nat) : Int) % 8 = needI (c.val : Nat) ∧ (1 < needI (c.val : Nat) → ((Lib.accLo (Lib.firstT c.val / 16) : Nat) : Int) = loI (c.val : Nat) ∧ ((Lib.accHi (Lib.firstT c.val / 16) : Nat) : Int) = hiI (c.val : Nat)) := by decide

theorem first_need {x : Int} (hx : 0 ≤ x ∧ x ≤ 255) : ((Lib.firstT x.toNat : Nat) : Int) % 8 = needI x ∧ (1 < needI x → ((Lib.accLo (Lib.firstT x.toNat / 16) : Nat) : Int) = loI x ∧ ((Lib.accHi (Lib.firstT x.toNat / 16) : Nat) : Int) = hiI x) := by
  obtain ⟨c, rfl⟩ := Int.eq_ofNat_of_zero_le hx.1
  rw [Int.toNat_natCast]
  exact first_fin ⟨c, by omega⟩

set_option maxRecDepth 100000 in
set_option maxHeartbeats 8000000 in
theorem fullRune_any (b off n cap : Nat) (zs : List Int) (w : World) (hT : Tabs w) (hl : zs.length = n) (hb : ∀ i, 0 ≤ bt zs i ∧ bt zs i ≤ 255) (hlt : b < w.heap.size)
    (hc : ∀ i, i < zs.length → w.cell? ⟨b, off + i, none⟩ = some (.int .u8 (zs[i]?.getD 0))) (hn1 : 1 ≤ n) (hn : n ≤ 2097152) (hcap : n ≤ cap) (hcm : cap ≤ maxLen) :
    Calls Tryd.prog 40 #[.slice (some ⟨b, off, none⟩) n cap] w fun e w' => e = .returned (.bool (frB n (bt zs 0) (bt zs 1) (bt zs 2))) ∧ Below w.heap.size w w' := by
  obtain ⟨x, hx⟩ : ∃ x, x = bt zs 0 := ⟨_, rfl⟩
  obtain ⟨y, hy⟩ : ∃ y, y = bt zs 1 := ⟨_, rfl⟩
  obtain ⟨z, hz⟩ : ∃ z, z = bt zs 2 := ⟨_, rfl⟩
  have bx : 0 ≤ x ∧ x ≤ 255 := by rw [hx]; exact hb 0
  have c0 : w.cell? ⟨b, off, none⟩ = some (.int .u8 x) := by have := hc 0 (by omega); rw [hx]; simpa [bt] using this
  have HC1 : Hid (1 < n → w.cell? ⟨b, off + 1, none⟩ = some (.int .u8 y)) := fun h => by rw [hy]; exact hc 1 (by omega)
  have HC2 : Hid (2 < n → w.cell? ⟨b, off + 2, none⟩ = some (.int .u8 z)) := fun h => by rw [hz]; exact hc 2 (by omega)
  obtain ⟨v, hv⟩ : ∃ v : Nat, v = Lib.firstT x.toNat := ⟨_, rfl⟩
  have t0 : w.cell? ⟨0, x.toNat, none⟩ = some (.int .u8 v) := by rw [hv]; exact hT.1 _ (by omega)
  have hv8 := first_need bx
  have hvc := Lib.firstT_cases x.toNat
  rw [← hv] at hv8 hvc
  rw [← hx, ← hy, ← hz]
  have HT : Hid (Tabs w) := hT
  have n0 : ((n : Int) == 0) = false := by simp; omega
  have n0' : (0 : Int) < n := by omega
  have HX : Hid (0 ≤ x ∧ x ≤ 255) := bx
  have x1 : 0 ≤ x := bx.1
  have x2 : x < 256 := by omega
  unfold maxLen at hcm
  have HY : Hid (0 ≤ y ∧ y ≤ 255 ∧ 0 ≤ z ∧ z ≤ 255) := by rw [hy, hz]; exact ⟨(hb 1).1, (hb 1).2, (hb 2).1, (hb 2).2⟩
  clear hv hx hy hz hb hc hT hl bx
  rcases hvc with rfl | rfl | rfl | rfl | rfl | rfl | rfl | rfl | rfl
  · have hN : needI x = 0 := by have := hv8.1; omega
    clear hv8
    have E : Hid (frB n x y z = true) := by show _ = _; unfold frB; rw [hN]; simp; omega
    clear hN
    go_enter Tryd.func40, Tryd.ntmps40
    go_wp2
    go_ret
    exact ⟨by rw [E.out]; rfl, Below.refl _ _⟩
  · have hN : needI x = 1 := by have := hv8.1; omega
    clear hv8
    have E : Hid (frB n x y z = true) := by show _ = _; unfold frB; rw [hN]; simp; omega
    clear hN
    go_enter Tryd.func40, Tryd.ntmps40
    go_wp2
    go_ret
    exact ⟨by rw [E.out]; rfl, Below.refl _ _⟩
  · have hN : needI x = 2 := by have := hv8.1; omega
    have h1 : ((Lib.accLo (2 / 16) : Nat) : Int) = 128 := by decide
    have h2 : ((Lib.accHi (2 / 16) : Nat) : Int) = 191 := by decide
    have hLH : loI x = 128 ∧ hiI x = 191 := by have h := hv8.2 (by omega); omega
    obtain ⟨hL, hH⟩ := hLH
    clear hv8 h1 h2
    by_cases hlong : 2 ≤ n
    · have E : Hid (frB n x y z = true) := by show _ = _; unfold frB; rw [hN]; simp; omega
      clear hN hL hH
      have hlz : (2 : Int) ≤ n := by omega
      go_enter Tryd.func40, Tryd.ntmps40
      go_wp2
      go_ret
      exact ⟨by rw [E.out]; rfl, Below.refl _ _⟩
    have hlz : ¬ (2 : Int) ≤ n := by omega
    have ha0 : w.cell? ⟨1, 0, none⟩ = some (.int .u8 128) := (HT.out.2 0 (by omega)).1
    have ha1 : w.cell? ⟨1, 1, none⟩ = some (.int .u8 191) := (HT.out.2 0 (by omega)).2
    have HBW : Hid (Below w.heap.size w (w.alloc (.cells #[.int .u8 128, .int .u8 191] 63))) := (Below.refl _ _).alloc (Nat.le_refl _) _
    have g0 : (w.alloc (.cells #[.int .u8 128, .int .u8 191] 63)).cell? ⟨w.heap.size, 0, none⟩ = some (.int .u8 128) := box_cellU (heap_alloc_new w _) rfl
    have g1 : (w.alloc (.cells #[.int .u8 128, .int .u8 191] 63)).cell? ⟨w.heap.size, 1, none⟩ = some (.int .u8 191) := box_cellU (heap_alloc_new w _) rfl
    have hq : n = 1 := by omega
    have k1 : decide ((1 : Int) < (n : Int)) = false := decide_eq_false (by omega)
    have k2 : decide ((2 : Int) < (n : Int)) = false := decide_eq_false (by omega)
    have E : Hid (frB n x y z = false) := by show _ = _; unfold frB; rw [hN, hL, hH]; simp; omega
    clear hN hL hH
    go_enter Tryd.func40, Tryd.ntmps40
    go_wp2
    go_quiet (fail)
    go_wp2
    go_ret
    exact ⟨by rw [E.out]; rfl, bel_drU HBW.out _⟩
  · have hN : needI x = 3 := by have := hv8.1; omega
    have h1 : ((Lib.accLo (19 / 16) : Nat) : Int) = 160 := by decide
    have h2 : ((Lib.accHi (19 / 16) : Nat) : Int) = 191 := by decide
    have hLH : loI x = 160 ∧ hiI x = 191 := by have h := hv8.2 (by omega); omega
    obtain ⟨hL, hH⟩ := hLH
    clear hv8 h1 h2
    by_cases hlong : 3 ≤ n
    · have E : Hid (frB n x y z = true) := by show _ = _; unfold frB; rw [hN]; simp; omega
      clear hN hL hH
      have hlz : (3 : Int) ≤ n := by omega
      go_enter Tryd.func40, Tryd.ntmps40
      go_wp2
      go_ret
      exact ⟨by rw [E.out]; rfl, Below.refl _ _⟩
    have hlz : ¬ (3 : Int) ≤ n := by omega
    have ha0 : w.cell? ⟨1, 2, none⟩ = some (.int .u8 160) := (HT.out.2 1 (by omega)).1
    have ha1 : w.cell? ⟨1, 3, none⟩ = some (.int .u8 191) := (HT.out.2 1 (by omega)).2
    have HBW : Hid (Below w.heap.size w (w.alloc (.cells #[.int .u8 160, .int .u8 191] 63))) := (Below.refl _ _).alloc (Nat.le_refl _) _
    have g0 : (w.alloc (.cells #[.int .u8 160, .int .u8 191] 63)).cell? ⟨w.heap.size, 0, none⟩ = some (.int .u8 160) := box_cellU (heap_alloc_new w _) rfl
    have g1 : (w.alloc (.cells #[.int .u8 160, .int .u8 191] 63)).cell? ⟨w.heap.size, 1, none⟩ = some (.int .u8 191) := box_cellU (heap_alloc_new w _) rfl
    by_cases hq1 : n = 1
    · have hq : n = 1 := hq1
      have k1 : decide ((1 : Int) < (n : Int)) = false := decide_eq_false (by omega)
      have k2 : decide ((2 : Int) < (n : Int)) = false := decide_eq_false (by omega)
      have E : Hid (frB n x y z = false) := by show _ = _; unfold frB; rw [hN, hL, hH]; simp; omega
      clear hN hL hH
      go_enter Tryd.func40, Tryd.ntmps40
      go_wp2
      go_quiet (fail)
      go_wp2
      go_ret
      exact ⟨by rw [E.out]; rfl, bel_drU HBW.out _⟩
    have hq : n = 2 := by omega
    have k1 : decide ((1 : Int) < (n : Int)) = true := decide_eq_true (by omega)
    have k2 : decide ((2 : Int) < (n : Int)) = false := decide_eq_false (by omega)
    have k1' : (1 : Int) < (n : Int) := by omega
    have d1 : (w.alloc (.cells #[.int .u8 160, .int .u8 191] 63)).cell? ⟨b, off + 1, none⟩ = some (.int .u8 y) := by rw [cell_allocU w _ _ hlt]; exact HC1.out (by omega)
    by_cases y1 : y < 160
    · have m1 : decide (y < 160) = true := decide_eq_true y1
      have E : Hid (frB n x y z = true) := by show _ = _; unfold frB; rw [hN, hL, hH]; simp; omega
      clear hN hL hH
      go_enter Tryd.func40, Tryd.ntmps40
      go_wp2
      go_quiet (fail)
      go_wp2
      go_ret
      exact ⟨by rw [E.out]; rfl, bel_drU HBW.out _⟩
    have m1 : decide (y < 160) = false := decide_eq_false y1
    by_cases y2 : 191 < y
    · have m2 : decide ((191 : Int) < y) = true := decide_eq_true y2
      have E : Hid (frB n x y z = true) := by show _ = _; unfold frB; rw [hN, hL, hH]; simp; omega
      clear hN hL hH
      go_enter Tryd.func40, Tryd.ntmps40
      go_wp2
      go_quiet (fail)
      go_wp2
      go_ret
      exact ⟨by rw [E.out]; rfl, bel_drU HBW.out _⟩
    have m2 : decide ((191 : Int) < y) = false := decide_eq_false y2
    have E : Hid (frB n x y z = false) := by show _ = _; unfold frB; rw [hN, hL, hH]; simp; omega
    clear hN hL hH
    go_enter Tryd.func40, Tryd.ntmps40
    go_wp2
    go_quiet (fail)
    go_wp2
    go_ret
    exact ⟨by rw [E.out]; rfl, bel_drU HBW.out _⟩
  · have hN : needI x = 3 := by have := hv8.1; omega
    have h1 : ((Lib.accLo (3 / 16) : Nat) : Int) = 128 := by decide
    have h2 : ((Lib.accHi (3 / 16) : Nat) : Int) = 191 := by decide
    have hLH : loI x = 128 ∧ hiI x = 191 := by have h := hv8.2 (by omega); omega
    obtain ⟨hL, hH⟩ := hLH
    clear hv8 h1 h2
    by_cases hlong : 3 ≤ n
    · have E : Hid (frB n x y z = true) := by show _ = _; unfold frB; rw [hN]; simp; omega
      clear hN hL hH
      have hlz : (3 : Int) ≤ n := by omega
      go_enter Tryd.func40, Tryd.ntmps40
      go_wp2
      go_ret
      exact ⟨by rw [E.out]; rfl, Below.refl _ _⟩
    have hlz : ¬ (3 : Int) ≤ n := by omega
    have ha0 : w.cell? ⟨1, 0, none⟩ = some (.int .u8 128) := (HT.out.2 0 (by omega)).1
    have ha1 : w.cell? ⟨1, 1, none⟩ = some (.int .u8 191) := (HT.out.2 0 (by omega)).2
    have HBW : Hid (Below w.heap.size w (w.alloc (.cells #[.int .u8 128, .int .u8 191] 63))) := (Below.refl _ _).alloc (Nat.le_refl _) _
    have g0 : (w.alloc (.cells #[.int .u8 128, .int .u8 191] 63)).cell? ⟨w.heap.size, 0, none⟩ = some (.int .u8 128) := box_cellU (heap_alloc_new w _) rfl
    have g1 : (w.alloc (.cells #[.int .u8 128, .int .u8 191] 63)).cell? ⟨w.heap.size, 1, none⟩ = some (.int .u8 191) := box_cellU (heap_alloc_new w _) rfl
    by_cases hq1 : n = 1
    · have hq : n = 1 := hq1
      have k1 : decide ((1 : Int) < (n : Int)) = false := decide_eq_false (by omega)
      have k2 : decide ((2 : Int) < (n : Int)) = false := decide_eq_false (by omega)
      have E : Hid (frB n x y z = false) := by show _ = _; unfold frB; rw [hN, hL, hH]; simp; omega
      clear hN hL hH
      go_enter Tryd.func40, Tryd.ntmps40
      go_wp2
      go_quiet (fail)
      go_wp2
      go_ret
      exact ⟨by rw [E.out]; rfl, bel_drU HBW.out _⟩
    have hq : n = 2 := by omega
    have k1 : decide ((1 : Int) < (n : Int)) = true := decide_eq_true (by omega)
    have k2 : decide ((2 : Int) < (n : Int)) = false := decide_eq_false (by omega)
    have k1' : (1 : Int) < (n : Int) := by omega
    have d1 : (w.alloc (.cells #[.int .u8 128, .int .u8 191] 63)).cell? ⟨b, off + 1, none⟩ = some (.int .u8 y) := by rw [cell_allocU w _ _ hlt]; exact HC1.out (by omega)
    by_cases y1 : y < 128
    · have m1 : decide (y < 128) = true := decide_eq_true y1
      have E : Hid (frB n x y z = true) := by show _ = _; unfold frB; rw [hN, hL, hH]; simp; omega
      clear hN hL hH
      go_enter Tryd.func40, Tryd.ntmps40
      go_wp2
      go_quiet (fail)
      go_wp2
      go_ret
      exact ⟨by rw [E.out]; rfl, bel_drU HBW.out _⟩
    have m1 : decide (y < 128) = false := decide_eq_false y1
    by_cases y2 : 191 < y
    · have m2 : decide ((191 : Int) < y) = true := decide_eq_true y2
      have E : Hid (frB n x y z = true) := by show _ = _; unfold frB; rw [hN, hL, hH]; simp; omega
      clear hN hL hH
      go_enter Tryd.func40, Tryd.ntmps40
      go_wp2
      go_quiet (fail)
      go_wp2
      go_ret
      exact ⟨by rw [E.out]; rfl, bel_drU HBW.out _⟩
    have m2 : decide ((191 : Int) < y) = false := decide_eq_false y2
    have E : Hid (frB n x y z = false) := by show _ = _; unfold frB; rw [hN, hL, hH]; simp; omega
    clear hN hL hH
    go_enter Tryd.func40, Tryd.ntmps40
    go_wp2
    go_quiet (fail)
    go_wp2
    go_ret
    exact ⟨by rw [E.out]; rfl, bel_drU HBW.out _⟩
  · have hN : needI x = 3 := by have := hv8.1; omega
    have h1 : ((Lib.accLo (35 / 16) : Nat) : Int) = 128 := by decide
    have h2 : ((Lib.accHi (35 / 16) : Nat) : Int) = 159 := by decide
    have hLH : loI x = 128 ∧ hiI x = 159 := by have h := hv8.2 (by omega); omega
    obtain ⟨hL, hH⟩ := hLH
    clear hv8 h1 h2
    by_cases hlong : 3 ≤ n
    · have E : Hid (frB n x y z = true) := by show _ = _; unfold frB; rw [hN]; simp; omega
      clear hN hL hH
      have hlz : (3 : Int) ≤ n := by omega
      go_enter Tryd.func40, Tryd.ntmps40
      go_wp2
      go_ret
      exact ⟨by rw [E.out]; rfl, Below.refl _ _⟩
    have hlz : ¬ (3 : Int) ≤ n := by omega
    have ha0 : w.cell? ⟨1, 4, none⟩ = some (.int .u8 128) := (HT.out.2 2 (by omega)).1
    have ha1 : w.cell? ⟨1, 5, none⟩ = some (.int .u8 159) := (HT.out.2 2 (by omega)).2
    have HBW : Hid (Below w.heap.size w (w.alloc (.cells #[.int .u8 128, .int .u8 159] 63))) := (Below.refl _ _).alloc (Nat.le_refl _) _
    have g0 : (w.alloc (.cells #[.int .u8 128, .int .u8 159] 63)).cell? ⟨w.heap.size, 0, none⟩ = some (.int .u8 128) := box_cellU (heap_alloc_new w _) rfl
    have g1 : (w.alloc (.cells #[.int .u8 128, .int .u8 159] 63)).cell? ⟨w.heap.size, 1, none⟩ = some (.int .u8 159) := box_cellU (heap_alloc_new w _) rfl
    by_cases hq1 : n = 1
    · have hq : n = 1 := hq1
      have k1 : decide ((1 : Int) < (n : Int)) = false := decide_eq_false (by omega)
      have k2 : decide ((2 : Int) < (n : Int)) = false := decide_eq_false (by omega)
      have E : Hid (frB n x y z = false) := by show _ = _; unfold frB; rw [hN, hL, hH]; simp; omega
      clear hN hL hH
      go_enter Tryd.func40, Tryd.ntmps40
      go_wp2
      go_quiet (fail)
      go_wp2
      go_ret
      exact ⟨by rw [E.out]; rfl, bel_drU HBW.out _⟩
    have hq : n = 2 := by omega
    have k1 : decide ((1 : Int) < (n : Int)) = true := decide_eq_true (by omega)
    have k2 : decide ((2 : Int) < (n : Int)) = false := decide_eq_false (by omega)
    have k1' : (1 : Int) < (n : Int) := by omega
    have d1 : (w.alloc (.cells #[.int .u8 128, .int .u8 159] 63)).cell? ⟨b, off + 1, none⟩ = some (.int .u8 y) := by rw [cell_allocU w _ _ hlt]; exact HC1.out (by omega)
    by_cases y1 : y < 128
    · have m1 : decide (y < 128) = true := decide_eq_true y1
      have E : Hid (frB n x y z = true) := by show _ = _; unfold frB; rw [hN, hL, hH]; simp; omega
      clear hN hL hH
      go_enter Tryd.func40, Tryd.ntmps40
      go_wp2
      go_quiet (fail)
      go_wp2
      go_ret
      exact ⟨by rw [E.out]; rfl, bel_drU HBW.out _⟩
    have m1 : decide (y < 128) = false := decide_eq_false y1
    by_cases y2 : 159 < y
    · have m2 : decide ((159 : Int) < y) = true := decide_eq_true y2
      have E : Hid (frB n x y z = true) := by show _ = _; unfold frB; rw [hN, hL, hH]; simp; omega
      clear hN hL hH
      go_enter Tryd.func40, Tryd.ntmps40
      go_wp2
      go_quiet (fail)
      go_wp2
      go_ret
      exact ⟨by rw [E.out]; rfl, bel_drU HBW.out _⟩
    have m2 : decide ((159 : Int) < y) = false := decide_eq_false y2
    have E : Hid (frB n x y z = false) := by show _ = _; unfold frB; rw [hN, hL, hH]; simp; omega
    clear hN hL hH
    go_enter Tryd.func40, Tryd.ntmps40
    go_wp2
    go_quiet (fail)
    go_wp2
    go_ret
    exact ⟨by rw [E.out]; rfl, bel_drU HBW.out _⟩
  · have hN : needI x = 4 := by have := hv8.1; omega
    have h1 : ((Lib.accLo (52 / 16) : Nat) : Int) = 144 := by decide
    have h2 : ((Lib.accHi (52 / 16) : Nat) : Int) = 191 := by decide
    have hLH : loI x = 144 ∧ hiI x = 191 := by have h := hv8.2 (by omega); omega
    obtain ⟨hL, hH⟩ := hLH
    clear hv8 h1 h2
    by_cases hlong : 4 ≤ n
    · have E : Hid (frB n x y z = true) := by show _ = _; unfold frB; rw [hN]; simp; omega
      clear hN hL hH
      have hlz : (4 : Int) ≤ n := by omega
      go_enter Tryd.func40, Tryd.ntmps40
      go_wp2
      go_ret
      exact ⟨by rw [E.out]; rfl, Below.refl _ _⟩
    have hlz : ¬ (4 : Int) ≤ n := by omega
    have ha0 : w.cell? ⟨1, 6, none⟩ = some (.int .u8 144) := (HT.out.2 3 (by omega)).1
    have ha1 : w.cell? ⟨1, 7, none⟩ = some (.int .u8 191) := (HT.out.2 3 (by omega)).2
    have HBW : Hid (Below w.heap.size w (w.alloc (.cells #[.int .u8 144, .int .u8 191] 63))) := (Below.refl _ _).alloc (Nat.le_refl _) _
    have g0 : (w.alloc (.cells #[.int .u8 144, .int .u8 191] 63)).cell? ⟨w.heap.size, 0, none⟩ = some (.int .u8 144) := box_cellU (heap_alloc_new w _) rfl
    have g1 : (w.alloc (.cells #[.int .u8 144, .int .u8 191] 63)).cell? ⟨w.heap.size, 1, none⟩ = some (.int .u8 191) := box_cellU (heap_alloc_new w _) rfl
    by_cases hq1 : n = 1
    · have hq : n = 1 := hq1
      have k1 : decide ((1 : Int) < (n : Int)) = false := decide_eq_false (by omega)
      have k2 : decide ((2 : Int) < (n : Int)) = false := decide_eq_false (by omega)
      have E : Hid (frB n x y z = false) := by show _ = _; unfold frB; rw [hN, hL, hH]; simp; omega
      clear hN hL hH
      go_enter Tryd.func40, Tryd.ntmps40
      go_wp2
      go_quiet (fail)
      go_wp2
      go_ret
      exact ⟨by rw [E.out]; rfl, bel_drU HBW.out _⟩
    by_cases hq2 : n = 2
    · have hq : n = 2 := hq2
      have k1 : decide ((1 : Int) < (n : Int)) = true := decide_eq_true (by omega)
      have k2 : decide ((2 : Int) < (n : Int)) = false := decide_eq_false (by omega)
      have k1' : (1 : Int) < (n : Int) := by omega
      have d1 : (w.alloc (.cells #[.int .u8 144, .int .u8 191] 63)).cell? ⟨b, off + 1, none⟩ = some (.int .u8 y) := by rw [cell_allocU w _ _ hlt]; exact HC1.out (by omega)
      by_cases y1 : y < 144
      · have m1 : decide (y < 144) = true := decide_eq_true y1
        have E : Hid (frB n x y z = true) := by show _ = _; unfold frB; rw [hN, hL, hH]; simp; omega
        clear hN hL hH
        go_enter Tryd.func40, Tryd.ntmps40
        go_wp2
        go_quiet (fail)
        go_wp2
        go_ret
        exact ⟨by rw [E.out]; rfl, bel_drU HBW.out _⟩
      have m1 : decide (y < 144) = false := decide_eq_false y1
      by_cases y2 : 191 < y
      · have m2 : decide ((191 : Int) < y) = true := decide_eq_true y2
        have E : Hid (frB n x y z = true) := by show _ = _; unfold frB; rw [hN, hL, hH]; simp; omega
        clear hN hL hH
        go_enter Tryd.func40, Tryd.ntmps40
        go_wp2
        go_quiet (fail)
        go_wp2
        go_ret
        exact ⟨by rw [E.out]; rfl, bel_drU HBW.out _⟩
      have m2 : decide ((191 : Int) < y) = false := decide_eq_false y2
      have E : Hid (frB n x y z = false) := by show _ = _; unfold frB; rw [hN, hL, hH]; simp; omega
      clear hN hL hH
      go_enter Tryd.func40, Tryd.ntmps40
      go_wp2
      go_quiet (fail)
      go_wp2
      go_ret
      exact ⟨by rw [E.out]; rfl, bel_drU HBW.out _⟩
    have hq : n = 3 := by omega
    have k1 : decide ((1 : Int) < (n : Int)) = true := decide_eq_true (by omega)
    have k2 : decide ((2 : Int) < (n : Int)) = true := decide_eq_true (by omega)
    have k1' : (1 : Int) < (n : Int) := by omega
    have d1 : (w.alloc (.cells #[.int .u8 144, .int .u8 191] 63)).cell? ⟨b, off + 1, none⟩ = some (.int .u8 y) := by rw [cell_allocU w _ _ hlt]; exact HC1.out (by omega)
    have k2' : (2 : Int) < (n : Int) := by omega
    have d2 : (w.alloc (.cells #[.int .u8 144, .int .u8 191] 63)).cell? ⟨b, off + 2, none⟩ = some (.int .u8 z) := by rw [cell_allocU w _ _ hlt]; exact HC2.out (by omega)
    by_cases y1 : y < 144
    · have m1 : decide (y < 144) = true := decide_eq_true y1
      have E : Hid (frB n x y z = true) := by show _ = _; unfold frB; rw [hN, hL, hH]; simp; omega
      clear hN hL hH
      go_enter Tryd.func40, Tryd.ntmps40
      go_wp2
      go_quiet (fail)
      go_wp2
      go_ret
      exact ⟨by rw [E.out]; rfl, bel_drU HBW.out _⟩
    have m1 : decide (y < 144) = false := decide_eq_false y1
    by_cases y2 : 191 < y
    · have m2 : decide ((191 : Int) < y) = true := decide_eq_true y2
      have E : Hid (frB n x y z = true) := by show _ = _; unfold frB; rw [hN, hL, hH]; simp; omega
      clear hN hL hH
      go_enter Tryd.func40, Tryd.ntmps40
      go_wp2
      go_quiet (fail)
      go_wp2
      go_ret
      exact ⟨by rw [E.out]; rfl, bel_drU HBW.out _⟩
    have m2 : decide ((191 : Int) < y) = false := decide_eq_false y2
    by_cases z1 : z < 128
    · have m3 : decide (z < 128) = true := decide_eq_true z1
      have E : Hid (frB n x y z = true) := by show _ = _; unfold frB; rw [hN, hL, hH]; simp; omega
      clear hN hL hH
      go_enter Tryd.func40, Tryd.ntmps40
      go_wp2
      go_quiet (fail)
      go_wp2
      go_ret
      exact ⟨by rw [E.out]; rfl, bel_drU HBW.out _⟩
    have m3 : decide (z < 128) = false := decide_eq_false z1
    by_cases z2 : 191 < z
    · have m4 : decide ((191 : Int) < z) = true := decide_eq_true z2
      have E : Hid (frB n x y z = true) := by show _ = _; unfold frB; rw [hN, hL, hH]; simp; omega
      clear hN hL hH
      go_enter Tryd.func40, Tryd.ntmps40
      go_wp2
      go_quiet (fail)
      go_wp2
      go_ret
      exact ⟨by rw [E.out]; rfl, bel_drU HBW.out _⟩
    have m4 : decide ((191 : Int) < z) = false := decide_eq_false z2
    have E : Hid (frB n x y z = false) := by show _ = _; unfold frB; rw [hN, hL, hH]; simp; omega
    clear hN hL hH
    go_enter Tryd.func40, Tryd.ntmps40
    go_wp2
    go_quiet (fail)
    go_wp2
    go_ret
    exact ⟨by rw [E.out]; rfl, bel_drU HBW.out _⟩
  · have hN : needI x = 4 := by have := hv8.1; omega
    have h1 : ((Lib.accLo (4 / 16) : Nat) : Int) = 128 := by decide
    have h2 : ((Lib.accHi (4 / 16) : Nat) : Int) = 191 := by decide
    have hLH : loI x = 128 ∧ hiI x = 191 := by have h := hv8.2 (by omega); omega
    obtain ⟨hL, hH⟩ := hLH
    clear hv8 h1 h2
    by_cases hlong : 4 ≤ n
    · have E : Hid (frB n x y z = true) := by show _ = _; unfold frB; rw [hN]; simp; omega
      clear hN hL hH
      have hlz : (4 : Int) ≤ n := by omega
      go_enter Tryd.func40, Tryd.ntmps40
      go_wp2
      go_ret
      exact ⟨by rw [E.out]; rfl, Below.refl _ _⟩
    have hlz : ¬ (4 : Int) ≤ n := by omega
    have ha0 : w.cell? ⟨1, 0, none⟩ = some (.int .u8 128) := (HT.out.2 0 (by omega)).1
    have ha1 : w.cell? ⟨1, 1, none⟩ = some (.int .u8 191) := (HT.out.2 0 (by omega)).2
    have HBW : Hid (Below w.heap.size w (w.alloc (.cells #[.int .u8 128, .int .u8 191] 63))) := (Below.refl _ _).alloc (Nat.le_refl _) _
    have g0 : (w.alloc (.cells #[.int .u8 128, .int .u8 191] 63)).cell? ⟨w.heap.size, 0, none⟩ = some (.int .u8 128) := box_cellU (heap_alloc_new w _) rfl
    have g1 : (w.alloc (.cells #[.int .u8 128, .int .u8 191] 63)).cell? ⟨w.heap.size, 1, none⟩ = some (.int .u8 191) := box_cellU (heap_alloc_new w _) rfl
    by_cases hq1 : n = 1
    · have hq : n = 1 := hq1
      have k1 : decide ((1 : Int) < (n : Int)) = false := decide_eq_false (by omega)
      have k2 : decide ((2 : Int) < (n : Int)) = false := decide_eq_false (by omega)
      have E : Hid (frB n x y z = false) := by show _ = _; unfold frB; rw [hN, hL, hH]; simp; omega
      clear hN hL hH
      go_enter Tryd.func40, Tryd.ntmps40
      go_wp2
      go_quiet (fail)
      go_wp2
      go_ret
      exact ⟨by rw [E.out]; rfl, bel_drU HBW.out _⟩
    by_cases hq2 : n = 2
    · have hq : n = 2 := hq2
      have k1 : decide ((1 : Int) < (n : Int)) = true := decide_eq_true (by omega)
      have k2 : decide ((2 : Int) < (n : Int)) = false := decide_eq_false (by omega)
      have k1' : (1 : Int) < (n : Int) := by omega
      have d1 : (w.alloc (.cells #[.int .u8 128, .int .u8 191] 63)).cell? ⟨b, off + 1, none⟩ = some (.int .u8 y) := by rw [cell_allocU w _ _ hlt]; exact HC1.out (by omega)
      by_cases y1 : y < 128
      · have m1 : decide (y < 128) = true := decide_eq_true y1
        have E : Hid (frB n x y z = true) := by show _ = _; unfold frB; rw [hN, hL, hH]; simp; omega
        clear hN hL hH
        go_enter Tryd.func40, Tryd.ntmps40
        go_wp2
        go_quiet (fail)
        go_wp2
        go_ret
        exact ⟨by rw [E.out]; rfl, bel_drU HBW.out _⟩
      have m1 : decide (y < 128) = false := decide_eq_false y1
      by_cases y2 : 191 < y
      · have m2 : decide ((191 : Int) < y) = true := decide_eq_true y2
        have E : Hid (frB n x y z = true) := by show _ = _; unfold frB; rw [hN, hL, hH]; simp; omega
        clear hN hL hH
        go_enter Tryd.func40, Tryd.ntmps40
        go_wp2
        go_quiet (fail)
        go_wp2
        go_ret
        exact ⟨by rw [E.out]; rfl, bel_drU HBW.out _⟩
      have m2 : decide ((191 : Int) < y) = false := decide_eq_false y2
      have E : Hid (frB n x y z = false) := by show _ = _; unfold frB; rw [hN, hL, hH]; simp; omega
      clear hN hL hH
      go_enter Tryd.func40, Tryd.ntmps40
      go_wp2
      go_quiet (fail)
      go_wp2
      go_ret
      exact ⟨by rw [E.out]; rfl, bel_drU HBW.out _⟩
    have hq : n = 3 := by omega
    have k1 : decide ((1 : Int) < (n : Int)) = true := decide_eq_true (by omega)
    have k2 : decide ((2 : Int) < (n : Int)) = true := decide_eq_true (by omega)
    have k1' : (1 : Int) < (n : Int) := by omega
    have d1 : (w.alloc (.cells #[.int .u8 128, .int .u8 191] 63)).cell? ⟨b, off + 1, none⟩ = some (.int .u8 y) := by rw [cell_allocU w _ _ hlt]; exact HC1.out (by omega)
    have k2' : (2 : Int) < (n : Int) := by omega
    have d2 : (w.alloc (.cells #[.int .u8 128, .int .u8 191] 63)).cell? ⟨b, off + 2, none⟩ = some (.int .u8 z) := by rw [cell_allocU w _ _ hlt]; exact HC2.out (by omega)
    by_cases y1 : y < 128
    · have m1 : decide (y < 128) = true := decide_eq_true y1
      have E : Hid (frB n x y z = true) := by show _ = _; unfold frB; rw [hN, hL, hH]; simp; omega
      clear hN hL hH
      go_enter Tryd.func40, Tryd.ntmps40
      go_wp2
      go_quiet (fail)
      go_wp2
      go_ret
      exact ⟨by rw [E.out]; rfl, bel_drU HBW.out _⟩
    have m1 : decide (y < 128) = false := decide_eq_false y1
    by_cases y2 : 191 < y
    · have m2 : decide ((191 : Int) < y) = true := decide_eq_true y2
      have E : Hid (frB n x y z = true) := by show _ = _; unfold frB; rw [hN, hL, hH]; simp; omega
      clear hN hL hH
      go_enter Tryd.func40, Tryd.ntmps40
      go_wp2
      go_quiet (fail)
      go_wp2
      go_ret
      exact ⟨by rw [E.out]; rfl, bel_drU HBW.out _⟩
    have m2 : decide ((191 : Int) < y) = false := decide_eq_false y2
    by_cases z1 : z < 128
    · have m3 : decide (z < 128) = true := decide_eq_true z1
      have E : Hid (frB n x y z = true) := by show _ = _; unfold frB; rw [hN, hL, hH]; simp; omega
      clear hN hL hH
      go_enter Tryd.func40, Tryd.ntmps40
      go_wp2
      go_quiet (fail)
      go_wp2
      go_ret
      exact ⟨by rw [E.out]; rfl, bel_drU HBW.out _⟩
    have m3 : decide (z < 128) = false := decide_eq_false z1
    by_cases z2 : 191 < z
    · have m4 : decide ((191 : Int) < z) = true := decide_eq_true z2
      have E : Hid (frB n x y z = true) := by show _ = _; unfold frB; rw [hN, hL, hH]; simp; omega
      clear hN hL hH
      go_enter Tryd.func40, Tryd.ntmps40
      go_wp2
      go_quiet (fail)
      go_wp2
      go_ret
      exact ⟨by rw [E.out]; rfl, bel_drU HBW.out _⟩
    have m4 : decide ((191 : Int) < z) = false := decide_eq_false z2
    have E : Hid (frB n x y z = false) := by show _ = _; unfold frB; rw [hN, hL, hH]; simp; omega
    clear hN hL hH
    go_enter Tryd.func40, Tryd.ntmps40
    go_wp2
    go_quiet (fail)
    go_wp2
    go_ret
    exact ⟨by rw [E.out]; rfl, bel_drU HBW.out _⟩
  · have hN : needI x = 4 := by have := hv8.1; omega
    have h1 : ((Lib.accLo (68 / 16) : Nat) : Int) = 128 := by decide
    have h2 : ((Lib.accHi (68 / 16) : Nat) : Int) = 143 := by decide
    have hLH : loI x = 128 ∧ hiI x = 143 := by have h := hv8.2 (by omega); omega
    obtain ⟨hL, hH⟩ := hLH
    clear hv8 h1 h2
    by_cases hlong : 4 ≤ n
    · have E : Hid (frB n x y z = true) := by show _ = _; unfold frB; rw [hN]; simp; omega
      clear hN hL hH
      have hlz : (4 : Int) ≤ n := by omega
      go_enter Tryd.func40, Tryd.ntmps40
      go_wp2
      go_ret
      exact ⟨by rw [E.out]; rfl, Below.refl _ _⟩
    have hlz : ¬ (4 : Int) ≤ n := by omega
    have ha0 : w.cell? ⟨1, 8, none⟩ = some (.int .u8 128) := (HT.out.2 4 (by omega)).1
    have ha1 : w.cell? ⟨1, 9, none⟩ = some (.int .u8 143) := (HT.out.2 4 (by omega)).2
    have HBW : Hid (Below w.heap.size w (w.alloc (.cells #[.int .u8 128, .int .u8 143] 63))) := (Below.refl _ _).alloc (Nat.le_refl _) _
    have g0 : (w.alloc (.cells #[.int .u8 128, .int .u8 143] 63)).cell? ⟨w.heap.size, 0, none⟩ = some (.int .u8 128) := box_cellU (heap_alloc_new w _) rfl
    have g1 : (w.alloc (.cells #[.int .u8 128, .int .u8 143] 63)).cell? ⟨w.heap.size, 1, none⟩ = some (.int .u8 143) := box_cellU (heap_alloc_new w _) rfl
    by_cases hq1 : n = 1
    · have hq : n = 1 := hq1
      have k1 : decide ((1 : Int) < (n : Int)) = false := decide_eq_false (by omega)
      have k2 : decide ((2 : Int) < (n : Int)) = false := decide_eq_false (by omega)
      have E : Hid (frB n x y z = false) := by show _ = _; unfold frB; rw [hN, hL, hH]; simp; omega
      clear hN hL hH
      go_enter Tryd.func40, Tryd.ntmps40
      go_wp2
      go_quiet (fail)
      go_wp2
      go_ret
      exact ⟨by rw [E.out]; rfl, bel_drU HBW.out _⟩
    by_cases hq2 : n = 2
    · have hq : n = 2 := hq2
      have k1 : decide ((1 : Int) < (n : Int)) = true := decide_eq_true (by omega)
      have k2 : decide ((2 : Int) < (n : Int)) = false := decide_eq_false (by omega)
      have k1' : (1 : Int) < (n : Int) := by omega
      have d1 : (w.alloc (.cells #[.int .u8 128, .int .u8 143] 63)).cell? ⟨b, off + 1, none⟩ = some (.int .u8 y) := by rw [cell_allocU w _ _ hlt]; exact HC1.out (by omega)
      by_cases y1 : y < 128
      · have m1 : decide (y < 128) = true := decide_eq_true y1
        have E : Hid (frB n x y z = true) := by show _ = _; unfold frB; rw [hN, hL, hH]; simp; omega
        clear hN hL hH
        go_enter Tryd.func40, Tryd.ntmps40
        go_wp2
        go_quiet (fail)
        go_wp2
        go_ret
        exact ⟨by rw [E.out]; rfl, bel_drU HBW.out _⟩
      have m1 : decide (y < 128) = false := decide_eq_false y1
      by_cases y2 : 143 < y
      · have m2 : decide ((143 : Int) < y) = true := decide_eq_true y2
        have E : Hid (frB n x y z = true) := by show _ = _; unfold frB; rw [hN, hL, hH]; simp; omega
        clear hN hL hH
        go_enter Tryd.func40, Tryd.ntmps40
        go_wp2
        go_quiet (fail)
        go_wp2
        go_ret
        exact ⟨by rw [E.out]; rfl, bel_drU HBW.out _⟩
      have m2 : decide ((143 : Int) < y) = false := decide_eq_false y2
      have E : Hid (frB n x y z = false) := by show _ = _; unfold frB; rw [hN, hL, hH]; simp; omega
      clear hN hL hH
      go_enter Tryd.func40, Tryd.ntmps40
      go_wp2
      go_quiet (fail)
      go_wp2
      go_ret
      exact ⟨by rw [E.out]; rfl, bel_drU HBW.out _⟩
    have hq : n = 3 := by omega
    have k1 : decide ((1 : Int) < (n : Int)) = true := decide_eq_true (by omega)
    have k2 : decide ((2 : Int) < (n : Int)) = true := decide_eq_true (by omega)
    have k1' : (1 : Int) < (n : Int) := by omega
    have d1 : (w.alloc (.cells #[.int .u8 128, .int .u8 143] 63)).cell? ⟨b, off + 1, none⟩ = some (.int .u8 y) := by rw [cell_allocU w _ _ hlt]; exact HC1.out (by omega)
    have k2' : (2 : Int) < (n : Int) := by omega
    have d2 : (w.alloc (.cells #[.int .u8 128, .int .u8 143] 63)).cell? ⟨b, off + 2, none⟩ = some (.int .u8 z) := by rw [cell_allocU w _ _ hlt]; exact HC2.out (by omega)
    by_cases y1 : y < 128
    · have m1 : decide (y < 128) = true := decide_eq_true y1
      have E : Hid (frB n x y z = true) := by show _ = _; unfold frB; rw [hN, hL, hH]; simp; omega
      clear hN hL hH
      go_enter Tryd.func40, Tryd.ntmps40
      go_wp2
      go_quiet (fail)
      go_wp2
      go_ret
      exact ⟨by rw [E.out]; rfl, bel_drU HBW.out _⟩
    have m1 : decide (y < 128) = false := decide_eq_false y1
    by_cases y2 : 143 < y
    · have m2 : decide ((143 : Int) < y) = true := decide_eq_true y2
      have E : Hid (frB n x y z = true) := by show _ = _; unfold frB; rw [hN, hL, hH]; simp; omega
      clear hN hL hH
      go_enter Tryd.func40, Tryd.ntmps40
      go_wp2
      go_quiet (fail)
      go_wp2
      go_ret
      exact ⟨by rw [E.out]; rfl, bel_drU HBW.out _⟩
    have m2 : decide ((143 : Int) < y) = false := decide_eq_false y2
    by_cases z1 : z < 128
    · have m3 : decide (z < 128) = true := decide_eq_true z1
      have E : Hid (frB n x y z = true) := by show _ = _; unfold frB; rw [hN, hL, hH]; simp; omega
      clear hN hL hH
      go_enter Tryd.func40, Tryd.ntmps40
      go_wp2
      go_quiet (fail)
      go_wp2
      go_ret
      exact ⟨by rw [E.out]; rfl, bel_drU HBW.out _⟩
    have m3 : decide (z < 128) = false := decide_eq_false z1
    by_cases z2 : 191 < z
    · have m4 : decide ((191 : Int) < z) = true := decide_eq_true z2
      have E : Hid (frB n x y z = true) := by show _ = _; unfold frB; rw [hN, hL, hH]; simp; omega
      clear hN hL hH
      go_enter Tryd.func40, Tryd.ntmps40
      go_wp2
      go_quiet (fail)
      go_wp2
      go_ret
      exact ⟨by rw [E.out]; rfl, bel_drU HBW.out _⟩
    have m4 : decide ((191 : Int) < z) = false := decide_eq_false z2
    have E : Hid (frB n x y z = false) := by show _ = _; unfold frB; rw [hN, hL, hH]; simp; omega
    clear hN hL hH
    go_enter Tryd.func40, Tryd.ntmps40
    go_wp2
    go_quiet (fail)
    go_wp2
    go_ret
    exact ⟨by rw [E.out]; rfl, bel_drU HBW.out _⟩

set_option maxRecDepth 100000 in
set_option maxHeartbeats 2000000 in
theorem implRbg_any (a : Option Addr) (n cap : Nat) (zs : List Int) (w : World) (hT : Tabs w) (hl : zs.length = n) (hr : Rd w a zs) (hn : n ≤ 2097152) (hcap : n ≤ cap) (hcm : cap ≤ maxLen) :
    Calls Tryd.prog 17 #[.slice a n cap] w fun e w' => e = .returned (.bool (rbgB zs)) ∧ Below w.heap.size w w' := by
  by_cases h0 : n = 0
  · subst h0
    have E : Hid (rbgB zs = false) := by show _ = _; unfold rbgB; rw [hl]; rfl
    clear hr hT
    go_enter Tryd.func17, Tryd.ntmps17
    go_wp2
    go_ret
    exact ⟨by rw [E.out]; rfl, Below.refl _ _⟩
  · have hne : zs ≠ [] := by intro h'; subst h'; simp at hl; omega
    obtain ⟨b, off, rfl, hb, hc⟩ := hr.2.resolve_left hne
    obtain ⟨f, hf⟩ : ∃ f, f = frB n (bt zs 0) (bt zs 1) (bt zs 2) := ⟨_, rfl⟩
    have q : Hid (Calls Tryd.prog 40 #[.slice (some ⟨b, off, none⟩) n cap] w fun e w' => e = .returned (.bool f) ∧ Below w.heap.size w w') := by
      show Calls _ _ _ _ _
      rw [hf]; exact fullRune_any b off n cap zs w hT hl (fun i => hr.1 i) hb hc (by omega) hn hcap hcm
    have E : Hid (rbgB zs = !f) := by show _ = _; unfold rbgB; rw [hl, ← hf, decide_eq_true (by omega)]; rfl
    have h0' : (0 : Int) < (n : Int) := by omega
    unfold maxLen at hcm
    clear hf hr hc hT hl hne
    go_enter Tryd.func17, Tryd.ntmps17
    go_wp2_with fail
    refine q.out.mono ?_
    rintro e w2 ⟨rfl, hb2⟩
    go_wp2
    go_ret
    exact ⟨by rw [E.out]; rfl, hb2⟩

end Go.Proofs.YtojalheohpkdoaaDoor
