/-
  The type Vt of the laws, which has structs among its fields: its shape, and what szVt, toVt, eqVt do. By program (tygen2.py).
-/
import Derived.Test.YtojalheohpkdoaaDoorTyBase
import Derived.Handy
import Derived.Deep.RegionHeld3
import Derived.Test.YtojalheohpkdoaaDoorTyGrid
namespace Go.Proofs.YtojalheohpkdoaaDoor
open Go.RowKit
set_option linter.unusedVariables false

def shVt : Sh := Sh.ofL [shGrid, .int, (.sl .int), (.sl .u8), .int]

theorem open_Vt {w : World} {cs : List Value} {d : shVt.D} (h : Reads shVt w cs d) :
    ∃ a2 n2 c2 a7 n7 c7 a8 n8 c8, cs = [.int .i64 (d.1.1), .int .i64 (d.1.2.1), .slice a2 n2 c2, .int .i64 (d.1.2.2.2.1), .int .i64 (d.1.2.2.2.2.1), .bool (d.1.2.2.2.2.2.1), .int .i64 (d.2.1), .slice a7 n7 c7, .slice a8 n8 c8, .int .i64 (d.2.2.2.2.1)] ∧ Reads shGrid w [.int .i64 (d.1.1), .int .i64 (d.1.2.1), .slice a2 n2 c2, .int .i64 (d.1.2.2.2.1), .int .i64 (d.1.2.2.2.2.1), .bool (d.1.2.2.2.2.2.1)] d.1 ∧ Reads (.sl .int) w [.slice a7 n7 c7] d.2.2.1 ∧ Reads (.sl .u8) w [.slice a8 n8 c8] d.2.2.2.1 := by
  obtain ⟨_, _, rfl, h0, _, _, rfl, h1, _, _, rfl, h2, _, _, rfl, h3, _, _, rfl, h4, hE⟩ := h
  have g0 := h0
  obtain ⟨a2, n2, c2, e0, _⟩ := open_Grid g0
  have e1 : _ = _ := h1
  have g2 := h2
  obtain ⟨a7, c7, e2, _⟩ := g2
  have g3 := h3
  obtain ⟨a8, c8, e3, _⟩ := g3
  have e4 : _ = _ := h4
  have eE : _ = _ := hE
  subst e0 e1 e2 e3 e4 eE
  exact ⟨a2, n2, c2, a7, _, c7, a8, _, c8, rfl, h0, h2, h3⟩

theorem own_Vt {w : World} {B : Nat} {d : shVt.D} {v2 : Value} {F0 : List Nat} {v7 : Value} {F2 : List Nat} {v8 : Value} {F3 : List Nat} (o0 : Own shGrid w B [.int .i64 (d.1.1), .int .i64 (d.1.2.1), v2, .int .i64 (d.1.2.2.2.1), .int .i64 (d.1.2.2.2.2.1), .bool (d.1.2.2.2.2.2.1)] d.1 F0) (o2 : Own (.sl .int) w B [v7] d.2.2.1 F2) (o3 : Own (.sl .u8) w B [v8] d.2.2.2.1 F3) :
    Own shVt w B [.int .i64 (d.1.1), .int .i64 (d.1.2.1), v2, .int .i64 (d.1.2.2.2.1), .int .i64 (d.1.2.2.2.2.1), .bool (d.1.2.2.2.2.2.1), .int .i64 (d.2.1), v7, v8, .int .i64 (d.2.2.2.2.1)] d (F0 ++ (F2 ++ (F3 ++ ([])))) := by
  exact ⟨[_, _, _, _, _, _], _, F0, F2 ++ (F3 ++ ([])), rfl, rfl, o0, ⟨[_], _, [], F2 ++ (F3 ++ ([])), rfl, rfl, ⟨rfl, rfl⟩, ⟨[_], _, F2, F3 ++ ([]), rfl, rfl, o2, ⟨[_], _, F3, [], rfl, rfl, o3, ⟨[_], _, [], [], rfl, rfl, ⟨rfl, rfl⟩, ⟨rfl, rfl⟩⟩⟩⟩⟩⟩

theorem size_Vt : shVt.size = 10 := rfl

theorem sz_Vt (d : shVt.D) : shVt.sz d = Sh.sz shGrid d.1 + Sh.sz (.sl .int) d.2.2.1 + Sh.sz (.sl .u8) d.2.2.2.1 := by
  show Sh.sz shGrid d.1 + (0 + (Sh.sz (.sl .int) d.2.2.1 + (Sh.sz (.sl .u8) d.2.2.2.1 + (0 + (0))))) = _
  omega

set_option maxHeartbeats 2000000 in
theorem szVt_any (cs : List Value) (d : shVt.D) (left : Int) (w : World) (hr : Reads shVt w cs d) (h0 : 0 ≤ left) (h1 : left ≤ 1048576) :
    Calls Tryd.prog 6 #[.agg cs.toArray, .int .i64 left] w fun e w' => e = .returned (.int .i64 (szAns (shVt.sz d) left)) ∧ Below w.heap.size w w' := by
  obtain ⟨a2, n2, c2, a7, n7, c7, a8, n8, c8, rfl, r0, r2, r3⟩ := open_Vt hr
  obtain ⟨x0, e0⟩ : ∃ x : Int, x = d.1.1 := ⟨_, rfl⟩
  obtain ⟨x1, e1⟩ : ∃ x : Int, x = d.1.2.1 := ⟨_, rfl⟩
  obtain ⟨x3, e3⟩ : ∃ x : Int, x = d.1.2.2.2.1 := ⟨_, rfl⟩
  obtain ⟨x4, e4⟩ : ∃ x : Int, x = d.1.2.2.2.2.1 := ⟨_, rfl⟩
  obtain ⟨x5, e5⟩ : ∃ x : Bool, x = d.1.2.2.2.2.2.1 := ⟨_, rfl⟩
  obtain ⟨x6, e6⟩ : ∃ x : Int, x = d.2.1 := ⟨_, rfl⟩
  obtain ⟨x9, e9⟩ : ∃ x : Int, x = d.2.2.2.2.1 := ⟨_, rfl⟩
  rw [sz_Vt]
  obtain ⟨k0, hk0⟩ : ∃ k, k = Sh.sz shGrid d.1 := ⟨_, rfl⟩
  have q0 : Hid (∀ w', Below w.heap.size w w' → ∀ l : Int, 0 ≤ l → l ≤ 1048576 → Calls Tryd.prog 19 #[.agg #[.int .i64 x0, .int .i64 x1, .slice a2 n2 c2, .int .i64 x3, .int .i64 x4, .bool x5], .int .i64 l] w' fun e w'' => e = .returned (.int .i64 (szAns k0 l)) ∧ Below w'.heap.size w' w'') := fun w' hb l l0 l1 => by rw [hk0, e0, e1, e3, e4, e5]; exact szGrid_any _ _ l w' (r0.later hb) l0 l1
  obtain ⟨k2, hk2⟩ : ∃ k, k = Sh.sz (.sl .int) d.2.2.1 := ⟨_, rfl⟩
  have q2 : Hid (∀ w', Below w.heap.size w w' → ∀ l : Int, 0 ≤ l → l ≤ 1048576 → Calls Tryd.prog 20 #[.slice a7 n7 c7, .int .i64 l] w' fun e w'' => e = .returned (.int .i64 (szAns k2 l)) ∧ Below w'.heap.size w' w'') := fun w' hb l l0 l1 => by rw [hk2]; exact szIntS_any a7 n7 c7 _ l w' (r2.later hb) l0 l1
  obtain ⟨k3, hk3⟩ : ∃ k, k = Sh.sz (.sl .u8) d.2.2.2.1 := ⟨_, rfl⟩
  have q3 : Hid (∀ w', Below w.heap.size w w' → ∀ l : Int, 0 ≤ l → l ≤ 1048576 → Calls Tryd.prog 21 #[.slice a8 n8 c8, .int .i64 l] w' fun e w'' => e = .returned (.int .i64 (szAns k3 l)) ∧ Below w'.heap.size w' w'') := fun w' hb l l0 l1 => by rw [hk3]; exact szByteS_any a8 n8 c8 _ l w' (r3.later hb) l0 l1
  rw [← hk0, ← hk2, ← hk3]
  rw [← e0, ← e1, ← e3, ← e4, ← e5, ← e6, ← e9]
  clear hr r0 hk0 r2 hk2 r3 hk3 e0 e1 e3 e4 e5 e6 e9
  obtain ⟨W0, hW0⟩ : ∃ W0, W0 = w.alloc (.cells #[.int .i64 x0, .int .i64 x1, .slice a2 n2 c2, .int .i64 x3, .int .i64 x4, .bool x5, .int .i64 x6, .slice a7 n7 c7, .slice a8 n8 c8, .int .i64 x9] 27) := ⟨_, rfl⟩
  have bW0 : Below w.heap.size w W0 := by rw [hW0]; exact (Below.refl _ _).alloc (Nat.le_refl _) _
  have hbox : W0.heap[w.heap.size]? = some (.cells #[.int .i64 x0, .int .i64 x1, .slice a2 n2 c2, .int .i64 x3, .int .i64 x4, .bool x5, .int .i64 x6, .slice a7 n7 c7, .slice a8 n8 c8, .int .i64 x9] 27 (0, 0)) := by rw [hW0]; exact heap_alloc_new w _
  have zW0 : W0.heap.size = w.heap.size + 1 := by rw [hW0]; simp
  have HW0 : Hid (W0 = _) := hW0
  have HBX : Hid _ := hbox
  clear hW0 hbox
  go_enter Tryd.func6, Tryd.ntmps6
  go_wp2_with fail
  rw [← HW0.out]
  refine (q0.out _ bW0 (left) (by omega) (by omega)).mono ?_
  rintro e w0 ⟨rfl, hb0⟩
  have b0 := bW0.trans (hb0.mono bW0.size)
  have i0 : w0.heap[w.heap.size]? = _ := (hb0.block _ (by rw [zW0]; omega)).trans HBX.out
  have z0 := hb0.size
  rw [zW0] at z0
  have y0_6 : w0.cell? ⟨w.heap.size, 6, none⟩ = some (.int .i64 x6) := box_cell i0 rfl
  have y0_7 : w0.cell? ⟨w.heap.size, 7, none⟩ = some (.slice a7 n7 c7) := box_cell i0 rfl
  have y0_8 : w0.cell? ⟨w.heap.size, 8, none⟩ = some (.slice a8 n8 c8) := box_cell i0 rfl
  have y0_9 : w0.cell? ⟨w.heap.size, 9, none⟩ = some (.int .i64 x9) := box_cell i0 rfl
  have I0 : Hid _ := i0
  clear i0 hb0
  by_cases t0 : (k0 : Int) ≤ left
  rotate_left
  · rw [szAns_no t0]
    have E : Hid (szAns (k0 + k2 + k3) left = -1) := szAns_no (by omega)
    go_wp2
    go_ret
    exact ⟨by rw [E.out]; rfl, b0⟩
  rw [szAns_yes t0]
  have u0 : ¬ (left - (k0 : Int) < 0) := by omega
  go_wp2_with fail
  refine (q2.out _ b0 (left - (k0 : Int)) (by omega) (by omega)).mono ?_
  rintro e w2 ⟨rfl, hb2⟩
  have b2 := b0.trans (hb2.mono b0.size)
  have i2 : w2.heap[w.heap.size]? = _ := (hb2.block _ (by omega)).trans I0.out
  have z2 := hb2.size
  have y2_8 : w2.cell? ⟨w.heap.size, 8, none⟩ = some (.slice a8 n8 c8) := box_cell i2 rfl
  have y2_9 : w2.cell? ⟨w.heap.size, 9, none⟩ = some (.int .i64 x9) := box_cell i2 rfl
  have I2 : Hid _ := i2
  clear i2 hb2
  by_cases t2 : (k2 : Int) ≤ left - (k0 : Int)
  rotate_left
  · rw [szAns_no t2]
    have E : Hid (szAns (k0 + k2 + k3) left = -1) := szAns_no (by omega)
    go_wp2
    go_ret
    exact ⟨by rw [E.out]; rfl, b2⟩
  rw [szAns_yes t2]
  have u2 : ¬ (left - (k0 : Int) - (k2 : Int) < 0) := by omega
  go_wp2_with fail
  refine (q3.out _ b2 (left - (k0 : Int) - (k2 : Int)) (by omega) (by omega)).mono ?_
  rintro e w3 ⟨rfl, hb3⟩
  have b3 := b2.trans (hb3.mono b2.size)
  have i3 : w3.heap[w.heap.size]? = _ := (hb3.block _ (by omega)).trans I2.out
  have z3 := hb3.size
  have y3_9 : w3.cell? ⟨w.heap.size, 9, none⟩ = some (.int .i64 x9) := box_cell i3 rfl
  have I3 : Hid _ := i3
  clear i3 hb3
  by_cases t3 : (k3 : Int) ≤ left - (k0 : Int) - (k2 : Int)
  rotate_left
  · rw [szAns_no t3]
    have E : Hid (szAns (k0 + k2 + k3) left = -1) := szAns_no (by omega)
    go_wp2
    go_ret
    exact ⟨by rw [E.out]; rfl, b3⟩
  rw [szAns_yes t3]
  have u3 : ¬ (left - (k0 : Int) - (k2 : Int) - (k3 : Int) < 0) := by omega
  have E : Hid (szAns (k0 + k2 + k3) left = left - (k0 : Int) - (k2 : Int) - (k3 : Int)) := by show _ = _; rw [szAns_yes (by omega)]; omega
  go_wp2
  go_ret
  exact ⟨by rw [E.out]; rfl, b3⟩

theorem opens_Vt {H : Type} {enc : TypeId × Value → H} {w : World} {spare : Nat → Bool} {held : Bool} : Opens enc Tryd.prog w spare held 27 shVt := by
  refine opens_struct [shGrid, .int, (.sl .int), (.sl .u8), .int] Tryd.underlying27 (by kernel_rfl) (fun i s hi => ?_)
  match i, hi with
  | 0, hi => obtain rfl := Option.some.inj hi; exact ⟨_, rfl, opens_Grid, rfl⟩
  | 1, hi => obtain rfl := Option.some.inj hi; exact ⟨_, rfl, opens_int Tryd.underlying3 (by kernel_rfl), rfl⟩
  | 2, hi => obtain rfl := Option.some.inj hi; exact ⟨_, rfl, opens_sl Tryd.underlying22 (by kernel_rfl) (by decide) (opens_int Tryd.underlying3 (by kernel_rfl)), rfl⟩
  | 3, hi => obtain rfl := Option.some.inj hi; exact ⟨_, rfl, opens_sl Tryd.underlying25 (by kernel_rfl) (by decide) (opens_u8 Tryd.underlying5 (by kernel_rfl)), rfl⟩
  | 4, hi => obtain rfl := Option.some.inj hi; exact ⟨_, rfl, opens_int Tryd.underlying3 (by kernel_rfl), rfl⟩
  | n + 5, hi => simp at hi

set_option maxRecDepth 100000 in
set_option maxHeartbeats 16000000 in
theorem toVt_any (cs : List Value) (d : shVt.D) (w : World) (hr : Reads shVt w cs d) (hs : shVt.sz d ≤ 1048576) :
    Calls Tryd.prog 8 #[.agg cs.toArray] w fun e w' => ∃ cs' F, e = .returned (.agg cs'.toArray) ∧ Own shVt w' w.heap.size cs' d F ∧ F.Nodup ∧ Below w.heap.size w w' := by
  obtain ⟨a2, n2, c2, a7, n7, c7, a8, n8, c8, rfl, r0, r2, r3⟩ := open_Vt hr
  obtain ⟨x0, e0⟩ : ∃ x : Int, x = d.1.1 := ⟨_, rfl⟩
  obtain ⟨x1, e1⟩ : ∃ x : Int, x = d.1.2.1 := ⟨_, rfl⟩
  obtain ⟨x3, e3⟩ : ∃ x : Int, x = d.1.2.2.2.1 := ⟨_, rfl⟩
  obtain ⟨x4, e4⟩ : ∃ x : Int, x = d.1.2.2.2.2.1 := ⟨_, rfl⟩
  obtain ⟨x5, e5⟩ : ∃ x : Bool, x = d.1.2.2.2.2.2.1 := ⟨_, rfl⟩
  obtain ⟨x6, e6⟩ : ∃ x : Int, x = d.2.1 := ⟨_, rfl⟩
  obtain ⟨x9, e9⟩ : ∃ x : Int, x = d.2.2.2.2.1 := ⟨_, rfl⟩
  rw [sz_Vt] at hs
  have q0 : Hid (∀ w', Below w.heap.size w w' → Calls Tryd.prog 23 #[.agg #[.int .i64 x0, .int .i64 x1, .slice a2 n2 c2, .int .i64 x3, .int .i64 x4, .bool x5]] w' fun e w'' => ∃ (g2 : Option Addr) (m2 k2 : Nat) (F : List Nat), e = .returned (.agg #[.int .i64 x0, .int .i64 x1, .slice g2 m2 k2, .int .i64 x3, .int .i64 x4, .bool x5]) ∧ Own shGrid w'' w'.heap.size [.int .i64 x0, .int .i64 x1, .slice g2 m2 k2, .int .i64 x3, .int .i64 x4, .bool x5] d.1 F ∧ F.Nodup ∧ Below w'.heap.size w' w'') := fun w' h' => by
    rw [e0, e1, e3, e4, e5]
    refine (toGrid_any _ _ w' (r0.later h') (by show Sh.sz shGrid _ ≤ _; omega)).mono ?_
    rintro e w'' ⟨cs', F, rfl, ho, hn, hb⟩
    obtain ⟨_, _, _, e, _⟩ := open_Grid ho.reads
    subst e
    exact ⟨_, _, _, F, rfl, ho, hn, hb⟩
  have q2 : Hid (∀ w', Below w.heap.size w w' → Calls Tryd.prog 24 #[.slice a7 n7 c7] w' fun e w'' => ∃ (g7 : Option Addr) (m7 k7 : Nat) (F : List Nat), e = .returned (.slice g7 m7 k7) ∧ Own (.sl .int) w'' w'.heap.size [.slice g7 m7 k7] d.2.2.1 F ∧ F.Nodup ∧ Below w'.heap.size w' w'') := fun w' h' => by
    refine (toIntS_own a7 n7 c7 _ w' (r2.later h') (by omega)).mono ?_
    rintro e w'' ⟨g, F, rfl, ho, hn, hb⟩
    exact ⟨_, _, _, F, rfl, ho, hn, hb⟩
  have q3 : Hid (∀ w', Below w.heap.size w w' → Calls Tryd.prog 16 #[.slice a8 n8 c8] w' fun e w'' => ∃ (g8 : Option Addr) (m8 k8 : Nat) (F : List Nat), e = .returned (.slice g8 m8 k8) ∧ Own (.sl .u8) w'' w'.heap.size [.slice g8 m8 k8] d.2.2.2.1 F ∧ F.Nodup ∧ Below w'.heap.size w' w'') := fun w' h' => by
    refine (toByteS_own a8 n8 c8 _ w' (r3.later h') (by omega)).mono ?_
    rintro e w'' ⟨g, F, rfl, ho, hn, hb⟩
    exact ⟨_, _, _, F, rfl, ho, hn, hb⟩
  rw [← e0, ← e1, ← e3, ← e4, ← e5, ← e6, ← e9]
  have HE : Hid (x0 = d.1.1 ∧ x1 = d.1.2.1 ∧ x3 = d.1.2.2.2.1 ∧ x4 = d.1.2.2.2.2.1 ∧ x5 = d.1.2.2.2.2.2.1 ∧ x6 = d.2.1 ∧ x9 = d.2.2.2.2.1 ∧ True) := ⟨e0, e1, e3, e4, e5, e6, e9, trivial⟩
  obtain ⟨i0, i1, i2, isz⟩ := alloc3_heap w (.cells #[.int .i64 x0, .int .i64 x1, .slice a2 n2 c2, .int .i64 x3, .int .i64 x4, .bool x5, .int .i64 x6, .slice a7 n7 c7, .slice a8 n8 c8, .int .i64 x9] 27) (.cells #[.int .i64 0, .int .i64 0, .slice none 0 0, .int .i64 0, .int .i64 0, .bool false, .int .i64 0, .slice none 0 0, .slice none 0 0, .int .i64 0] 32) (.cells #[.int .i64 0, .int .i64 0, .slice none 0 0, .int .i64 0, .int .i64 0, .bool false, .int .i64 0, .slice none 0 0, .slice none 0 0, .int .i64 0] 32)
  obtain ⟨W0, hW0⟩ : ∃ W0, W0 = ((w.alloc (.cells #[.int .i64 x0, .int .i64 x1, .slice a2 n2 c2, .int .i64 x3, .int .i64 x4, .bool x5, .int .i64 x6, .slice a7 n7 c7, .slice a8 n8 c8, .int .i64 x9] 27)).alloc (.cells #[.int .i64 0, .int .i64 0, .slice none 0 0, .int .i64 0, .int .i64 0, .bool false, .int .i64 0, .slice none 0 0, .slice none 0 0, .int .i64 0] 32)).alloc (.cells #[.int .i64 0, .int .i64 0, .slice none 0 0, .int .i64 0, .int .i64 0, .bool false, .int .i64 0, .slice none 0 0, .slice none 0 0, .int .i64 0] 32) := ⟨_, rfl⟩
  rw [← hW0] at i0 i1 i2 isz
  have bW0 : Below w.heap.size w W0 := by rw [hW0]; exact (((Below.refl _ _).alloc (Nat.le_refl _) _).alloc (by simp) _).alloc (by simp; omega) _
  have HW0 : Hid (W0 = _) := hW0
  have HI : Hid (_ ∧ _ ∧ _) := ⟨i0, i1, i2⟩
  have hle2 : w.heap.size ≤ w.heap.size + 1 + 1 := by omega
  have hle1 : w.heap.size ≤ w.heap.size + 1 := by omega
  have hne0 : w.heap.size ≠ w.heap.size + 1 + 1 := by omega
  have hne1 : w.heap.size + 1 ≠ w.heap.size + 1 + 1 := by omega
  have Hle : Hid (_ ∧ _) := ⟨hle1, hle2⟩
  clear hr hs hW0 i0 i1 i2 r0 r2 r3 e0 e1 e3 e4 e5 e6 e9
  go_enter Tryd.func8, Tryd.ntmps8
  go_wp2_with fail
  rw [← HW0.out]
  refine (q0.out _ bW0).mono ?_
  rintro e w0 ⟨g2, m2, k2, F0, rfl, o0, nd0, hb0⟩
  have b0 := bW0.trans (hb0.mono bW0.size)
  have z0 := hb0.size
  have iA : w0.heap[w.heap.size]? = some (.cells #[.int .i64 x0, .int .i64 x1, .slice a2 n2 c2, .int .i64 x3, .int .i64 x4, .bool x5, .int .i64 x6, .slice a7 n7 c7, .slice a8 n8 c8, .int .i64 x9] 27 (0, 0)) := (hb0.block _ (by omega)).trans HI.out.1
  have iB : w0.heap[w.heap.size + 1]? = some (.cells #[.int .i64 0, .int .i64 0, .slice none 0 0, .int .i64 0, .int .i64 0, .bool false, .int .i64 0, .slice none 0 0, .slice none 0 0, .int .i64 0] 32 (0, 0)) := (hb0.block _ (by omega)).trans HI.out.2.1
  have iC : w0.heap[w.heap.size + 1 + 1]? = some (.cells #[.int .i64 0, .int .i64 0, .slice none 0 0, .int .i64 0, .int .i64 0, .bool false, .int .i64 0, .slice none 0 0, .slice none 0 0, .int .i64 0] 32 (0, 0)) := (hb0.block _ (by omega)).trans HI.out.2.2
  have ya0_6 : w0.cell? ⟨w.heap.size, 6, none⟩ = some (.int .i64 x6) := box_cell iA rfl
  have ya0_7 : w0.cell? ⟨w.heap.size, 7, none⟩ = some (.slice a7 n7 c7) := box_cell iA rfl
  have ya0_8 : w0.cell? ⟨w.heap.size, 8, none⟩ = some (.slice a8 n8 c8) := box_cell iA rfl
  have ya0_9 : w0.cell? ⟨w.heap.size, 9, none⟩ = some (.int .i64 x9) := box_cell iA rfl
  have yb0_0 : w0.cell? ⟨w.heap.size + 1 + 1, 0, none⟩ = some (.int .i64 0) := box_cell iC rfl
  have yf0_0 : w0.frozen? ⟨w.heap.size + 1 + 1, 0, none⟩ = false := box_frozen iC
  have yb0_1 : w0.cell? ⟨w.heap.size + 1 + 1, 1, none⟩ = some (.int .i64 0) := box_cell iC rfl
  have yf0_1 : w0.frozen? ⟨w.heap.size + 1 + 1, 1, none⟩ = false := box_frozen iC
  have yb0_2 : w0.cell? ⟨w.heap.size + 1 + 1, 2, none⟩ = some (.slice none 0 0) := box_cell iC rfl
  have yf0_2 : w0.frozen? ⟨w.heap.size + 1 + 1, 2, none⟩ = false := box_frozen iC
  have yb0_3 : w0.cell? ⟨w.heap.size + 1 + 1, 3, none⟩ = some (.int .i64 0) := box_cell iC rfl
  have yf0_3 : w0.frozen? ⟨w.heap.size + 1 + 1, 3, none⟩ = false := box_frozen iC
  have yb0_4 : w0.cell? ⟨w.heap.size + 1 + 1, 4, none⟩ = some (.int .i64 0) := box_cell iC rfl
  have yf0_4 : w0.frozen? ⟨w.heap.size + 1 + 1, 4, none⟩ = false := box_frozen iC
  have yb0_5 : w0.cell? ⟨w.heap.size + 1 + 1, 5, none⟩ = some (.bool false) := box_cell iC rfl
  have yf0_5 : w0.frozen? ⟨w.heap.size + 1 + 1, 5, none⟩ = false := box_frozen iC
  have yb0_6 : w0.cell? ⟨w.heap.size + 1 + 1, 6, none⟩ = some (.int .i64 0) := box_cell iC rfl
  have yf0_6 : w0.frozen? ⟨w.heap.size + 1 + 1, 6, none⟩ = false := box_frozen iC
  rw [isz] at o0
  obtain ⟨W0, hW0⟩ : ∃ W, W = (((((((w0).setCell ⟨w.heap.size + 1 + 1, 0, none⟩ (.int .i64 x0)).setCell ⟨w.heap.size + 1 + 1, 1, none⟩ (.int .i64 x1)).setCell ⟨w.heap.size + 1 + 1, 2, none⟩ (.slice g2 m2 k2)).setCell ⟨w.heap.size + 1 + 1, 3, none⟩ (.int .i64 x3)).setCell ⟨w.heap.size + 1 + 1, 4, none⟩ (.int .i64 x4)).setCell ⟨w.heap.size + 1 + 1, 5, none⟩ (.bool x5)).setCell ⟨w.heap.size + 1 + 1, 6, none⟩ (.int .i64 x6) := ⟨_, rfl⟩
  have bW0 : Below w.heap.size w W0 := by rw [hW0]; exact (((((((b0.setCell hle2 _).setCell hle2 _).setCell hle2 _).setCell hle2 _).setCell hle2 _).setCell hle2 _).setCell hle2 _)
  have zW0 : w0.heap.size = W0.heap.size := by rw [hW0]; simp
  have kp0 : ∀ q, q ≠ w.heap.size + 1 + 1 → W0.heap[q]? = w0.heap[q]? := fun q hq => by rw [hW0]; exact ((box_other _ hq).trans ((box_other _ hq).trans ((box_other _ hq).trans ((box_other _ hq).trans ((box_other _ hq).trans ((box_other _ hq).trans (box_other _ hq)))))))
  have jA : W0.heap[w.heap.size]? = some (.cells #[.int .i64 x0, .int .i64 x1, .slice a2 n2 c2, .int .i64 x3, .int .i64 x4, .bool x5, .int .i64 x6, .slice a7 n7 c7, .slice a8 n8 c8, .int .i64 x9] 27 (0, 0)) := (kp0 _ hne0).trans iA
  have jB : W0.heap[w.heap.size + 1]? = some (.cells #[.int .i64 0, .int .i64 0, .slice none 0 0, .int .i64 0, .int .i64 0, .bool false, .int .i64 0, .slice none 0 0, .slice none 0 0, .int .i64 0] 32 (0, 0)) := (kp0 _ hne1).trans iB
  have jC : W0.heap[w.heap.size + 1 + 1]? = some (.cells #[.int .i64 x0, .int .i64 x1, .slice g2 m2 k2, .int .i64 x3, .int .i64 x4, .bool x5, .int .i64 x6, .slice none 0 0, .slice none 0 0, .int .i64 0] 32 (0, 0)) := by rw [hW0]; exact box_set _ (box_set _ (box_set _ (box_set _ (box_set _ (box_set _ (box_set _ iC))))))
  have oW0_0 : Own shGrid W0 (w.heap.size + 1 + 1 + 1) [.int .i64 x0, .int .i64 x1, .slice g2 m2 k2, .int .i64 x3, .int .i64 x4, .bool x5] d.1 F0 := o0.keep fun g hg => kp0 g (by have := (o0.lt g hg).1; omega)
  have OW0_0 : Hid (Own shGrid W0 (w.heap.size + 1 + 1 + 1) [.int .i64 x0, .int .i64 x1, .slice g2 m2 k2, .int .i64 x3, .int .i64 x4, .bool x5] d.1 F0) := oW0_0
  have TOP0 : ∀ x ∈ F0, x < W0.heap.size := fun x hx => (oW0_0.lt x hx).2
  have HJ0 : Hid (_ ∧ _ ∧ _) := ⟨jA, jB, jC⟩
  go_wp2_with fail
  rw [← hW0]
  clear hW0 iA iB iC jA jB jC kp0 b0 hb0 o0 oW0_0 ya0_6 ya0_7 ya0_8 ya0_9 yb0_0 yf0_0 yb0_1 yf0_1 yb0_2 yf0_2 yb0_3 yf0_3 yb0_4 yf0_4 yb0_5 yf0_5 yb0_6 yf0_6
  refine (q2.out _ bW0).mono ?_
  rintro e w2 ⟨g7, m7, k7, F2, rfl, o2, nd2, hb2⟩
  have b2 := bW0.trans (hb2.mono bW0.size)
  have z2 := hb2.size
  have iA : w2.heap[w.heap.size]? = some (.cells #[.int .i64 x0, .int .i64 x1, .slice a2 n2 c2, .int .i64 x3, .int .i64 x4, .bool x5, .int .i64 x6, .slice a7 n7 c7, .slice a8 n8 c8, .int .i64 x9] 27 (0, 0)) := (hb2.block _ (by omega)).trans HJ0.out.1
  have iB : w2.heap[w.heap.size + 1]? = some (.cells #[.int .i64 0, .int .i64 0, .slice none 0 0, .int .i64 0, .int .i64 0, .bool false, .int .i64 0, .slice none 0 0, .slice none 0 0, .int .i64 0] 32 (0, 0)) := (hb2.block _ (by omega)).trans HJ0.out.2.1
  have iC : w2.heap[w.heap.size + 1 + 1]? = some (.cells #[.int .i64 x0, .int .i64 x1, .slice g2 m2 k2, .int .i64 x3, .int .i64 x4, .bool x5, .int .i64 x6, .slice none 0 0, .slice none 0 0, .int .i64 0] 32 (0, 0)) := (hb2.block _ (by omega)).trans HJ0.out.2.2
  have p0_2 := OW0_0.out.later hb2
  have ya2_8 : w2.cell? ⟨w.heap.size, 8, none⟩ = some (.slice a8 n8 c8) := box_cell iA rfl
  have ya2_9 : w2.cell? ⟨w.heap.size, 9, none⟩ = some (.int .i64 x9) := box_cell iA rfl
  have yb2_7 : w2.cell? ⟨w.heap.size + 1 + 1, 7, none⟩ = some (.slice none 0 0) := box_cell iC rfl
  have yf2_7 : w2.frozen? ⟨w.heap.size + 1 + 1, 7, none⟩ = false := box_frozen iC
  obtain ⟨W2, hW2⟩ : ∃ W, W = (w2).setCell ⟨w.heap.size + 1 + 1, 7, none⟩ (.slice g7 m7 k7) := ⟨_, rfl⟩
  have bW2 : Below w.heap.size w W2 := by rw [hW2]; exact (b2.setCell hle2 _)
  have zW2 : w2.heap.size = W2.heap.size := by rw [hW2]; simp
  have kp2 : ∀ q, q ≠ w.heap.size + 1 + 1 → W2.heap[q]? = w2.heap[q]? := fun q hq => by rw [hW2]; exact (box_other _ hq)
  have jA : W2.heap[w.heap.size]? = some (.cells #[.int .i64 x0, .int .i64 x1, .slice a2 n2 c2, .int .i64 x3, .int .i64 x4, .bool x5, .int .i64 x6, .slice a7 n7 c7, .slice a8 n8 c8, .int .i64 x9] 27 (0, 0)) := (kp2 _ hne0).trans iA
  have jB : W2.heap[w.heap.size + 1]? = some (.cells #[.int .i64 0, .int .i64 0, .slice none 0 0, .int .i64 0, .int .i64 0, .bool false, .int .i64 0, .slice none 0 0, .slice none 0 0, .int .i64 0] 32 (0, 0)) := (kp2 _ hne1).trans iB
  have jC : W2.heap[w.heap.size + 1 + 1]? = some (.cells #[.int .i64 x0, .int .i64 x1, .slice g2 m2 k2, .int .i64 x3, .int .i64 x4, .bool x5, .int .i64 x6, .slice g7 m7 k7, .slice none 0 0, .int .i64 0] 32 (0, 0)) := by rw [hW2]; exact box_set _ iC
  have oW0_2 : Own shGrid W2 (w.heap.size + 1 + 1 + 1) [.int .i64 x0, .int .i64 x1, .slice g2 m2 k2, .int .i64 x3, .int .i64 x4, .bool x5] d.1 F0 := p0_2.keep fun g hg => kp2 g (by have := (p0_2.lt g hg).1; omega)
  have OW0_2 : Hid (Own shGrid W2 (w.heap.size + 1 + 1 + 1) [.int .i64 x0, .int .i64 x1, .slice g2 m2 k2, .int .i64 x3, .int .i64 x4, .bool x5] d.1 F0) := oW0_2
  have oW2_2 : Own (.sl .int) W2 W0.heap.size [.slice g7 m7 k7] d.2.2.1 F2 := o2.keep fun g hg => kp2 g (by have := (o2.lt g hg).1; omega)
  have OW2_2 : Hid (Own (.sl .int) W2 W0.heap.size [.slice g7 m7 k7] d.2.2.1 F2) := oW2_2
  have TOP2 : ∀ x ∈ F2, x < W2.heap.size := fun x hx => (oW2_2.lt x hx).2
  have HJ2 : Hid (_ ∧ _ ∧ _) := ⟨jA, jB, jC⟩
  go_wp2_with fail
  rw [← hW2]
  clear hW2 iA iB iC jA jB jC kp2 b2 hb2 p0_2 o2 oW0_2 oW2_2 ya2_8 ya2_9 yb2_7 yf2_7
  refine (q3.out _ bW2).mono ?_
  rintro e w3 ⟨g8, m8, k8, F3, rfl, o3, nd3, hb3⟩
  have b3 := bW2.trans (hb3.mono bW2.size)
  have z3 := hb3.size
  have iA : w3.heap[w.heap.size]? = some (.cells #[.int .i64 x0, .int .i64 x1, .slice a2 n2 c2, .int .i64 x3, .int .i64 x4, .bool x5, .int .i64 x6, .slice a7 n7 c7, .slice a8 n8 c8, .int .i64 x9] 27 (0, 0)) := (hb3.block _ (by omega)).trans HJ2.out.1
  have iB : w3.heap[w.heap.size + 1]? = some (.cells #[.int .i64 0, .int .i64 0, .slice none 0 0, .int .i64 0, .int .i64 0, .bool false, .int .i64 0, .slice none 0 0, .slice none 0 0, .int .i64 0] 32 (0, 0)) := (hb3.block _ (by omega)).trans HJ2.out.2.1
  have iC : w3.heap[w.heap.size + 1 + 1]? = some (.cells #[.int .i64 x0, .int .i64 x1, .slice g2 m2 k2, .int .i64 x3, .int .i64 x4, .bool x5, .int .i64 x6, .slice g7 m7 k7, .slice none 0 0, .int .i64 0] 32 (0, 0)) := (hb3.block _ (by omega)).trans HJ2.out.2.2
  have p0_3 := OW0_2.out.later hb3
  have p2_3 := OW2_2.out.later hb3
  have ya3_9 : w3.cell? ⟨w.heap.size, 9, none⟩ = some (.int .i64 x9) := box_cell iA rfl
  have yb3_8 : w3.cell? ⟨w.heap.size + 1 + 1, 8, none⟩ = some (.slice none 0 0) := box_cell iC rfl
  have yf3_8 : w3.frozen? ⟨w.heap.size + 1 + 1, 8, none⟩ = false := box_frozen iC
  have yb3_9 : w3.cell? ⟨w.heap.size + 1 + 1, 9, none⟩ = some (.int .i64 0) := box_cell iC rfl
  have yf3_9 : w3.frozen? ⟨w.heap.size + 1 + 1, 9, none⟩ = false := box_frozen iC
  have yb3_0 : w3.cell? ⟨w.heap.size + 1 + 1, 0, none⟩ = some (.int .i64 x0) := box_cell iC rfl
  have yr3_0 : w3.cell? ⟨w.heap.size + 1, 0, none⟩ = some (.int .i64 0) := box_cell iB rfl
  have yg3_0 : w3.frozen? ⟨w.heap.size + 1, 0, none⟩ = false := box_frozen iB
  have yb3_1 : w3.cell? ⟨w.heap.size + 1 + 1, 1, none⟩ = some (.int .i64 x1) := box_cell iC rfl
  have yr3_1 : w3.cell? ⟨w.heap.size + 1, 1, none⟩ = some (.int .i64 0) := box_cell iB rfl
  have yg3_1 : w3.frozen? ⟨w.heap.size + 1, 1, none⟩ = false := box_frozen iB
  have yb3_2 : w3.cell? ⟨w.heap.size + 1 + 1, 2, none⟩ = some (.slice g2 m2 k2) := box_cell iC rfl
  have yr3_2 : w3.cell? ⟨w.heap.size + 1, 2, none⟩ = some (.slice none 0 0) := box_cell iB rfl
  have yg3_2 : w3.frozen? ⟨w.heap.size + 1, 2, none⟩ = false := box_frozen iB
  have yb3_3 : w3.cell? ⟨w.heap.size + 1 + 1, 3, none⟩ = some (.int .i64 x3) := box_cell iC rfl
  have yr3_3 : w3.cell? ⟨w.heap.size + 1, 3, none⟩ = some (.int .i64 0) := box_cell iB rfl
  have yg3_3 : w3.frozen? ⟨w.heap.size + 1, 3, none⟩ = false := box_frozen iB
  have yb3_4 : w3.cell? ⟨w.heap.size + 1 + 1, 4, none⟩ = some (.int .i64 x4) := box_cell iC rfl
  have yr3_4 : w3.cell? ⟨w.heap.size + 1, 4, none⟩ = some (.int .i64 0) := box_cell iB rfl
  have yg3_4 : w3.frozen? ⟨w.heap.size + 1, 4, none⟩ = false := box_frozen iB
  have yb3_5 : w3.cell? ⟨w.heap.size + 1 + 1, 5, none⟩ = some (.bool x5) := box_cell iC rfl
  have yr3_5 : w3.cell? ⟨w.heap.size + 1, 5, none⟩ = some (.bool false) := box_cell iB rfl
  have yg3_5 : w3.frozen? ⟨w.heap.size + 1, 5, none⟩ = false := box_frozen iB
  have yb3_6 : w3.cell? ⟨w.heap.size + 1 + 1, 6, none⟩ = some (.int .i64 x6) := box_cell iC rfl
  have yr3_6 : w3.cell? ⟨w.heap.size + 1, 6, none⟩ = some (.int .i64 0) := box_cell iB rfl
  have yg3_6 : w3.frozen? ⟨w.heap.size + 1, 6, none⟩ = false := box_frozen iB
  have yb3_7 : w3.cell? ⟨w.heap.size + 1 + 1, 7, none⟩ = some (.slice g7 m7 k7) := box_cell iC rfl
  have yr3_7 : w3.cell? ⟨w.heap.size + 1, 7, none⟩ = some (.slice none 0 0) := box_cell iB rfl
  have yg3_7 : w3.frozen? ⟨w.heap.size + 1, 7, none⟩ = false := box_frozen iB
  have yr3_8 : w3.cell? ⟨w.heap.size + 1, 8, none⟩ = some (.slice none 0 0) := box_cell iB rfl
  have yg3_8 : w3.frozen? ⟨w.heap.size + 1, 8, none⟩ = false := box_frozen iB
  have yr3_9 : w3.cell? ⟨w.heap.size + 1, 9, none⟩ = some (.int .i64 0) := box_cell iB rfl
  have yg3_9 : w3.frozen? ⟨w.heap.size + 1, 9, none⟩ = false := box_frozen iB
  have hn2 : ∀ g, w.heap.size + 1 + 1 < g → g ≠ w.heap.size + 1 + 1 := fun g h => by omega
  have hn1 : ∀ g, w.heap.size + 1 + 1 < g → g ≠ w.heap.size + 1 := fun g h => by omega
  have L0 := p0_3.lt
  have L2 := p2_3.lt
  have L3 := o3.lt
  have ND : (F0 ++ (F2 ++ (F3 ++ ([])))).Nodup := by
    simp only [List.append_nil, List.nodup_append]
    refine ⟨nd0, ⟨nd2, nd3, fun x hx y hy e => ?n2⟩, fun x hx y hy e => ?n0⟩
    case n0 =>
      subst e
      have h1 := TOP0 x hx
      rcases List.mem_append.1 hy with hy | hy
      · have h2 := L2 x hy; omega
      have h2 := L3 x hy; omega
    case n2 =>
      subst e
      have h1 := TOP2 x hx
      have h2 := L3 x hy; omega
  have HO : Hid ((∀ w', (∀ g, w.heap.size + 1 + 1 < g → w'.heap[g]? = w3.heap[g]?) → Own shVt w' w.heap.size [.int .i64 x0, .int .i64 x1, .slice g2 m2 k2, .int .i64 x3, .int .i64 x4, .bool x5, .int .i64 x6, .slice g7 m7 k7, .slice g8 m8 k8, .int .i64 x9] d (F0 ++ (F2 ++ (F3 ++ ([]))))) ∧ True) := ⟨fun w' hw' => by
    have u0 := (p0_3.keep fun g hg => hw' g (by have := (L0 g hg).1; omega)).base (B' := w.heap.size) (by omega)
    rw [HE.out.1, HE.out.2.1, HE.out.2.2.1, HE.out.2.2.2.1, HE.out.2.2.2.2.1] at u0
    have u2 := (p2_3.keep fun g hg => hw' g (by have := (L2 g hg).1; omega)).base (B' := w.heap.size) (by omega)
    have u3 := (o3.keep fun g hg => hw' g (by have := (L3 g hg).1; omega)).base (B' := w.heap.size) (by omega)
    have := own_Vt (w := w') (B := w.heap.size) (d := d) u0 u2 u3
    simpa only [← HE.out.1, ← HE.out.2.1, ← HE.out.2.2.1, ← HE.out.2.2.2.1, ← HE.out.2.2.2.2.1, ← HE.out.2.2.2.2.2.1, ← HE.out.2.2.2.2.2.2.1] using this, trivial⟩
  have iB9 := iB
  have HB : Hid (Below w.heap.size w w3) := b3
  have HN : Hid ((F0 ++ (F2 ++ (F3 ++ ([])))).Nodup) := ND
  clear iA iB iC ND b3 hb3 L0 L2 L3 p0_3 p2_3 o3
  have hz : (((w3).setCell ⟨w.heap.size + 1 + 1, 8, none⟩ (.slice g8 m8 k8)).setCell ⟨w.heap.size + 1 + 1, 9, none⟩ (.int .i64 x9)).heap[w.heap.size + 1]? = some (.cells #[.int .i64 0, .int .i64 0, .slice none 0 0, .int .i64 0, .int .i64 0, .bool false, .int .i64 0, .slice none 0 0, .slice none 0 0, .int .i64 0] 32 (0, 0)) := ((box_other _ hne1).trans (box_other _ hne1)).trans iB9
  have hz0 : ((((w3).setCell ⟨w.heap.size + 1 + 1, 8, none⟩ (.slice g8 m8 k8)).setCell ⟨w.heap.size + 1 + 1, 9, none⟩ (.int .i64 x9)).setCell ⟨w.heap.size + 1, 0, none⟩ (.int .i64 x0)).heap[w.heap.size + 1]? = some (.cells #[.int .i64 x0, .int .i64 0, .slice none 0 0, .int .i64 0, .int .i64 0, .bool false, .int .i64 0, .slice none 0 0, .slice none 0 0, .int .i64 0] 32 (0, 0)) := box_set _ hz
  have yz0 : ((((w3).setCell ⟨w.heap.size + 1 + 1, 8, none⟩ (.slice g8 m8 k8)).setCell ⟨w.heap.size + 1 + 1, 9, none⟩ (.int .i64 x9)).setCell ⟨w.heap.size + 1, 0, none⟩ (.int .i64 x0)).cell? ⟨w.heap.size + 1, 0, none⟩ = some (.int .i64 x0) := box_cell hz0 rfl
  clear hz
  have hz1 : (((((w3).setCell ⟨w.heap.size + 1 + 1, 8, none⟩ (.slice g8 m8 k8)).setCell ⟨w.heap.size + 1 + 1, 9, none⟩ (.int .i64 x9)).setCell ⟨w.heap.size + 1, 0, none⟩ (.int .i64 x0)).setCell ⟨w.heap.size + 1, 1, none⟩ (.int .i64 x1)).heap[w.heap.size + 1]? = some (.cells #[.int .i64 x0, .int .i64 x1, .slice none 0 0, .int .i64 0, .int .i64 0, .bool false, .int .i64 0, .slice none 0 0, .slice none 0 0, .int .i64 0] 32 (0, 0)) := box_set _ hz0
  have yz1 : (((((w3).setCell ⟨w.heap.size + 1 + 1, 8, none⟩ (.slice g8 m8 k8)).setCell ⟨w.heap.size + 1 + 1, 9, none⟩ (.int .i64 x9)).setCell ⟨w.heap.size + 1, 0, none⟩ (.int .i64 x0)).setCell ⟨w.heap.size + 1, 1, none⟩ (.int .i64 x1)).cell? ⟨w.heap.size + 1, 1, none⟩ = some (.int .i64 x1) := box_cell hz1 rfl
  clear hz0
  have hz2 : ((((((w3).setCell ⟨w.heap.size + 1 + 1, 8, none⟩ (.slice g8 m8 k8)).setCell ⟨w.heap.size + 1 + 1, 9, none⟩ (.int .i64 x9)).setCell ⟨w.heap.size + 1, 0, none⟩ (.int .i64 x0)).setCell ⟨w.heap.size + 1, 1, none⟩ (.int .i64 x1)).setCell ⟨w.heap.size + 1, 2, none⟩ (.slice g2 m2 k2)).heap[w.heap.size + 1]? = some (.cells #[.int .i64 x0, .int .i64 x1, .slice g2 m2 k2, .int .i64 0, .int .i64 0, .bool false, .int .i64 0, .slice none 0 0, .slice none 0 0, .int .i64 0] 32 (0, 0)) := box_set _ hz1
  have yz2 : ((((((w3).setCell ⟨w.heap.size + 1 + 1, 8, none⟩ (.slice g8 m8 k8)).setCell ⟨w.heap.size + 1 + 1, 9, none⟩ (.int .i64 x9)).setCell ⟨w.heap.size + 1, 0, none⟩ (.int .i64 x0)).setCell ⟨w.heap.size + 1, 1, none⟩ (.int .i64 x1)).setCell ⟨w.heap.size + 1, 2, none⟩ (.slice g2 m2 k2)).cell? ⟨w.heap.size + 1, 2, none⟩ = some (.slice g2 m2 k2) := box_cell hz2 rfl
  clear hz1
  have hz3 : (((((((w3).setCell ⟨w.heap.size + 1 + 1, 8, none⟩ (.slice g8 m8 k8)).setCell ⟨w.heap.size + 1 + 1, 9, none⟩ (.int .i64 x9)).setCell ⟨w.heap.size + 1, 0, none⟩ (.int .i64 x0)).setCell ⟨w.heap.size + 1, 1, none⟩ (.int .i64 x1)).setCell ⟨w.heap.size + 1, 2, none⟩ (.slice g2 m2 k2)).setCell ⟨w.heap.size + 1, 3, none⟩ (.int .i64 x3)).heap[w.heap.size + 1]? = some (.cells #[.int .i64 x0, .int .i64 x1, .slice g2 m2 k2, .int .i64 x3, .int .i64 0, .bool false, .int .i64 0, .slice none 0 0, .slice none 0 0, .int .i64 0] 32 (0, 0)) := box_set _ hz2
  have yz3 : (((((((w3).setCell ⟨w.heap.size + 1 + 1, 8, none⟩ (.slice g8 m8 k8)).setCell ⟨w.heap.size + 1 + 1, 9, none⟩ (.int .i64 x9)).setCell ⟨w.heap.size + 1, 0, none⟩ (.int .i64 x0)).setCell ⟨w.heap.size + 1, 1, none⟩ (.int .i64 x1)).setCell ⟨w.heap.size + 1, 2, none⟩ (.slice g2 m2 k2)).setCell ⟨w.heap.size + 1, 3, none⟩ (.int .i64 x3)).cell? ⟨w.heap.size + 1, 3, none⟩ = some (.int .i64 x3) := box_cell hz3 rfl
  clear hz2
  have hz4 : ((((((((w3).setCell ⟨w.heap.size + 1 + 1, 8, none⟩ (.slice g8 m8 k8)).setCell ⟨w.heap.size + 1 + 1, 9, none⟩ (.int .i64 x9)).setCell ⟨w.heap.size + 1, 0, none⟩ (.int .i64 x0)).setCell ⟨w.heap.size + 1, 1, none⟩ (.int .i64 x1)).setCell ⟨w.heap.size + 1, 2, none⟩ (.slice g2 m2 k2)).setCell ⟨w.heap.size + 1, 3, none⟩ (.int .i64 x3)).setCell ⟨w.heap.size + 1, 4, none⟩ (.int .i64 x4)).heap[w.heap.size + 1]? = some (.cells #[.int .i64 x0, .int .i64 x1, .slice g2 m2 k2, .int .i64 x3, .int .i64 x4, .bool false, .int .i64 0, .slice none 0 0, .slice none 0 0, .int .i64 0] 32 (0, 0)) := box_set _ hz3
  have yz4 : ((((((((w3).setCell ⟨w.heap.size + 1 + 1, 8, none⟩ (.slice g8 m8 k8)).setCell ⟨w.heap.size + 1 + 1, 9, none⟩ (.int .i64 x9)).setCell ⟨w.heap.size + 1, 0, none⟩ (.int .i64 x0)).setCell ⟨w.heap.size + 1, 1, none⟩ (.int .i64 x1)).setCell ⟨w.heap.size + 1, 2, none⟩ (.slice g2 m2 k2)).setCell ⟨w.heap.size + 1, 3, none⟩ (.int .i64 x3)).setCell ⟨w.heap.size + 1, 4, none⟩ (.int .i64 x4)).cell? ⟨w.heap.size + 1, 4, none⟩ = some (.int .i64 x4) := box_cell hz4 rfl
  clear hz3
  have hz5 : (((((((((w3).setCell ⟨w.heap.size + 1 + 1, 8, none⟩ (.slice g8 m8 k8)).setCell ⟨w.heap.size + 1 + 1, 9, none⟩ (.int .i64 x9)).setCell ⟨w.heap.size + 1, 0, none⟩ (.int .i64 x0)).setCell ⟨w.heap.size + 1, 1, none⟩ (.int .i64 x1)).setCell ⟨w.heap.size + 1, 2, none⟩ (.slice g2 m2 k2)).setCell ⟨w.heap.size + 1, 3, none⟩ (.int .i64 x3)).setCell ⟨w.heap.size + 1, 4, none⟩ (.int .i64 x4)).setCell ⟨w.heap.size + 1, 5, none⟩ (.bool x5)).heap[w.heap.size + 1]? = some (.cells #[.int .i64 x0, .int .i64 x1, .slice g2 m2 k2, .int .i64 x3, .int .i64 x4, .bool x5, .int .i64 0, .slice none 0 0, .slice none 0 0, .int .i64 0] 32 (0, 0)) := box_set _ hz4
  have yz5 : (((((((((w3).setCell ⟨w.heap.size + 1 + 1, 8, none⟩ (.slice g8 m8 k8)).setCell ⟨w.heap.size + 1 + 1, 9, none⟩ (.int .i64 x9)).setCell ⟨w.heap.size + 1, 0, none⟩ (.int .i64 x0)).setCell ⟨w.heap.size + 1, 1, none⟩ (.int .i64 x1)).setCell ⟨w.heap.size + 1, 2, none⟩ (.slice g2 m2 k2)).setCell ⟨w.heap.size + 1, 3, none⟩ (.int .i64 x3)).setCell ⟨w.heap.size + 1, 4, none⟩ (.int .i64 x4)).setCell ⟨w.heap.size + 1, 5, none⟩ (.bool x5)).cell? ⟨w.heap.size + 1, 5, none⟩ = some (.bool x5) := box_cell hz5 rfl
  clear hz4
  have hz6 : ((((((((((w3).setCell ⟨w.heap.size + 1 + 1, 8, none⟩ (.slice g8 m8 k8)).setCell ⟨w.heap.size + 1 + 1, 9, none⟩ (.int .i64 x9)).setCell ⟨w.heap.size + 1, 0, none⟩ (.int .i64 x0)).setCell ⟨w.heap.size + 1, 1, none⟩ (.int .i64 x1)).setCell ⟨w.heap.size + 1, 2, none⟩ (.slice g2 m2 k2)).setCell ⟨w.heap.size + 1, 3, none⟩ (.int .i64 x3)).setCell ⟨w.heap.size + 1, 4, none⟩ (.int .i64 x4)).setCell ⟨w.heap.size + 1, 5, none⟩ (.bool x5)).setCell ⟨w.heap.size + 1, 6, none⟩ (.int .i64 x6)).heap[w.heap.size + 1]? = some (.cells #[.int .i64 x0, .int .i64 x1, .slice g2 m2 k2, .int .i64 x3, .int .i64 x4, .bool x5, .int .i64 x6, .slice none 0 0, .slice none 0 0, .int .i64 0] 32 (0, 0)) := box_set _ hz5
  have yz6 : ((((((((((w3).setCell ⟨w.heap.size + 1 + 1, 8, none⟩ (.slice g8 m8 k8)).setCell ⟨w.heap.size + 1 + 1, 9, none⟩ (.int .i64 x9)).setCell ⟨w.heap.size + 1, 0, none⟩ (.int .i64 x0)).setCell ⟨w.heap.size + 1, 1, none⟩ (.int .i64 x1)).setCell ⟨w.heap.size + 1, 2, none⟩ (.slice g2 m2 k2)).setCell ⟨w.heap.size + 1, 3, none⟩ (.int .i64 x3)).setCell ⟨w.heap.size + 1, 4, none⟩ (.int .i64 x4)).setCell ⟨w.heap.size + 1, 5, none⟩ (.bool x5)).setCell ⟨w.heap.size + 1, 6, none⟩ (.int .i64 x6)).cell? ⟨w.heap.size + 1, 6, none⟩ = some (.int .i64 x6) := box_cell hz6 rfl
  clear hz5
  have hz7 : (((((((((((w3).setCell ⟨w.heap.size + 1 + 1, 8, none⟩ (.slice g8 m8 k8)).setCell ⟨w.heap.size + 1 + 1, 9, none⟩ (.int .i64 x9)).setCell ⟨w.heap.size + 1, 0, none⟩ (.int .i64 x0)).setCell ⟨w.heap.size + 1, 1, none⟩ (.int .i64 x1)).setCell ⟨w.heap.size + 1, 2, none⟩ (.slice g2 m2 k2)).setCell ⟨w.heap.size + 1, 3, none⟩ (.int .i64 x3)).setCell ⟨w.heap.size + 1, 4, none⟩ (.int .i64 x4)).setCell ⟨w.heap.size + 1, 5, none⟩ (.bool x5)).setCell ⟨w.heap.size + 1, 6, none⟩ (.int .i64 x6)).setCell ⟨w.heap.size + 1, 7, none⟩ (.slice g7 m7 k7)).heap[w.heap.size + 1]? = some (.cells #[.int .i64 x0, .int .i64 x1, .slice g2 m2 k2, .int .i64 x3, .int .i64 x4, .bool x5, .int .i64 x6, .slice g7 m7 k7, .slice none 0 0, .int .i64 0] 32 (0, 0)) := box_set _ hz6
  have yz7 : (((((((((((w3).setCell ⟨w.heap.size + 1 + 1, 8, none⟩ (.slice g8 m8 k8)).setCell ⟨w.heap.size + 1 + 1, 9, none⟩ (.int .i64 x9)).setCell ⟨w.heap.size + 1, 0, none⟩ (.int .i64 x0)).setCell ⟨w.heap.size + 1, 1, none⟩ (.int .i64 x1)).setCell ⟨w.heap.size + 1, 2, none⟩ (.slice g2 m2 k2)).setCell ⟨w.heap.size + 1, 3, none⟩ (.int .i64 x3)).setCell ⟨w.heap.size + 1, 4, none⟩ (.int .i64 x4)).setCell ⟨w.heap.size + 1, 5, none⟩ (.bool x5)).setCell ⟨w.heap.size + 1, 6, none⟩ (.int .i64 x6)).setCell ⟨w.heap.size + 1, 7, none⟩ (.slice g7 m7 k7)).cell? ⟨w.heap.size + 1, 7, none⟩ = some (.slice g7 m7 k7) := box_cell hz7 rfl
  clear hz6
  have hz8 : ((((((((((((w3).setCell ⟨w.heap.size + 1 + 1, 8, none⟩ (.slice g8 m8 k8)).setCell ⟨w.heap.size + 1 + 1, 9, none⟩ (.int .i64 x9)).setCell ⟨w.heap.size + 1, 0, none⟩ (.int .i64 x0)).setCell ⟨w.heap.size + 1, 1, none⟩ (.int .i64 x1)).setCell ⟨w.heap.size + 1, 2, none⟩ (.slice g2 m2 k2)).setCell ⟨w.heap.size + 1, 3, none⟩ (.int .i64 x3)).setCell ⟨w.heap.size + 1, 4, none⟩ (.int .i64 x4)).setCell ⟨w.heap.size + 1, 5, none⟩ (.bool x5)).setCell ⟨w.heap.size + 1, 6, none⟩ (.int .i64 x6)).setCell ⟨w.heap.size + 1, 7, none⟩ (.slice g7 m7 k7)).setCell ⟨w.heap.size + 1, 8, none⟩ (.slice g8 m8 k8)).heap[w.heap.size + 1]? = some (.cells #[.int .i64 x0, .int .i64 x1, .slice g2 m2 k2, .int .i64 x3, .int .i64 x4, .bool x5, .int .i64 x6, .slice g7 m7 k7, .slice g8 m8 k8, .int .i64 0] 32 (0, 0)) := box_set _ hz7
  have yz8 : ((((((((((((w3).setCell ⟨w.heap.size + 1 + 1, 8, none⟩ (.slice g8 m8 k8)).setCell ⟨w.heap.size + 1 + 1, 9, none⟩ (.int .i64 x9)).setCell ⟨w.heap.size + 1, 0, none⟩ (.int .i64 x0)).setCell ⟨w.heap.size + 1, 1, none⟩ (.int .i64 x1)).setCell ⟨w.heap.size + 1, 2, none⟩ (.slice g2 m2 k2)).setCell ⟨w.heap.size + 1, 3, none⟩ (.int .i64 x3)).setCell ⟨w.heap.size + 1, 4, none⟩ (.int .i64 x4)).setCell ⟨w.heap.size + 1, 5, none⟩ (.bool x5)).setCell ⟨w.heap.size + 1, 6, none⟩ (.int .i64 x6)).setCell ⟨w.heap.size + 1, 7, none⟩ (.slice g7 m7 k7)).setCell ⟨w.heap.size + 1, 8, none⟩ (.slice g8 m8 k8)).cell? ⟨w.heap.size + 1, 8, none⟩ = some (.slice g8 m8 k8) := box_cell hz8 rfl
  clear hz7
  have hz9 : (((((((((((((w3).setCell ⟨w.heap.size + 1 + 1, 8, none⟩ (.slice g8 m8 k8)).setCell ⟨w.heap.size + 1 + 1, 9, none⟩ (.int .i64 x9)).setCell ⟨w.heap.size + 1, 0, none⟩ (.int .i64 x0)).setCell ⟨w.heap.size + 1, 1, none⟩ (.int .i64 x1)).setCell ⟨w.heap.size + 1, 2, none⟩ (.slice g2 m2 k2)).setCell ⟨w.heap.size + 1, 3, none⟩ (.int .i64 x3)).setCell ⟨w.heap.size + 1, 4, none⟩ (.int .i64 x4)).setCell ⟨w.heap.size + 1, 5, none⟩ (.bool x5)).setCell ⟨w.heap.size + 1, 6, none⟩ (.int .i64 x6)).setCell ⟨w.heap.size + 1, 7, none⟩ (.slice g7 m7 k7)).setCell ⟨w.heap.size + 1, 8, none⟩ (.slice g8 m8 k8)).setCell ⟨w.heap.size + 1, 9, none⟩ (.int .i64 x9)).heap[w.heap.size + 1]? = some (.cells #[.int .i64 x0, .int .i64 x1, .slice g2 m2 k2, .int .i64 x3, .int .i64 x4, .bool x5, .int .i64 x6, .slice g7 m7 k7, .slice g8 m8 k8, .int .i64 x9] 32 (0, 0)) := box_set _ hz8
  have yz9 : (((((((((((((w3).setCell ⟨w.heap.size + 1 + 1, 8, none⟩ (.slice g8 m8 k8)).setCell ⟨w.heap.size + 1 + 1, 9, none⟩ (.int .i64 x9)).setCell ⟨w.heap.size + 1, 0, none⟩ (.int .i64 x0)).setCell ⟨w.heap.size + 1, 1, none⟩ (.int .i64 x1)).setCell ⟨w.heap.size + 1, 2, none⟩ (.slice g2 m2 k2)).setCell ⟨w.heap.size + 1, 3, none⟩ (.int .i64 x3)).setCell ⟨w.heap.size + 1, 4, none⟩ (.int .i64 x4)).setCell ⟨w.heap.size + 1, 5, none⟩ (.bool x5)).setCell ⟨w.heap.size + 1, 6, none⟩ (.int .i64 x6)).setCell ⟨w.heap.size + 1, 7, none⟩ (.slice g7 m7 k7)).setCell ⟨w.heap.size + 1, 8, none⟩ (.slice g8 m8 k8)).setCell ⟨w.heap.size + 1, 9, none⟩ (.int .i64 x9)).cell? ⟨w.heap.size + 1, 9, none⟩ = some (.int .i64 x9) := box_cell hz9 rfl
  clear hz8
  clear hz9 iB9
  go_wp2
  (try simp only [Exit.inBlock, Exit.then])
  refine bodyPost_ret (by simp [results, Tryd.results8, go_sem, yz0, yz1, yz2, yz3, yz4, yz5, yz6, yz7, yz8, yz9]; try rfl) rfl ?_
  refine ⟨_, _, rfl, HO.out.1 _ (fun g hg => ((box_other _ (hn1 g hg)).trans ((box_other _ (hn1 g hg)).trans ((box_other _ (hn1 g hg)).trans ((box_other _ (hn1 g hg)).trans ((box_other _ (hn1 g hg)).trans ((box_other _ (hn1 g hg)).trans ((box_other _ (hn1 g hg)).trans ((box_other _ (hn1 g hg)).trans ((box_other _ (hn1 g hg)).trans ((box_other _ (hn1 g hg)).trans ((box_other _ (hn2 g hg)).trans (box_other _ (hn2 g hg)))))))))))))), HN.out, ?_⟩
  exact ((((((((((((HB.out.setCell Hle.out.2 _).setCell Hle.out.2 _).setCell Hle.out.1 _).setCell Hle.out.1 _).setCell Hle.out.1 _).setCell Hle.out.1 _).setCell Hle.out.1 _).setCell Hle.out.1 _).setCell Hle.out.1 _).setCell Hle.out.1 _).setCell Hle.out.1 _).setCell Hle.out.1 _)

set_option maxRecDepth 100000 in
set_option maxHeartbeats 4000000 in
theorem eqVt_any (cs1 cs2 : List Value) (d : shVt.D) (w : World) (hr : Reads shVt w cs1 d) (hq : Reads shVt w cs2 d) (hs : shVt.sz d ≤ 1048576) :
    Calls Tryd.prog 10 #[.agg cs1.toArray, .agg cs2.toArray] w fun e w' => e = .returned (.bool true) ∧ Below w.heap.size w w' := by
  obtain ⟨a2, n2, c2, a7, n7, c7, a8, n8, c8, rfl, r0, r2, r3⟩ := open_Vt hr
  obtain ⟨p2, m2, k2, p7, m7, k7, p8, m8, k8, rfl, t0, t2, t3⟩ := open_Vt hq
  obtain ⟨x0, e0⟩ : ∃ x : Int, x = d.1.1 := ⟨_, rfl⟩
  obtain ⟨x1, e1⟩ : ∃ x : Int, x = d.1.2.1 := ⟨_, rfl⟩
  obtain ⟨x3, e3⟩ : ∃ x : Int, x = d.1.2.2.2.1 := ⟨_, rfl⟩
  obtain ⟨x4, e4⟩ : ∃ x : Int, x = d.1.2.2.2.2.1 := ⟨_, rfl⟩
  obtain ⟨x5, e5⟩ : ∃ x : Bool, x = d.1.2.2.2.2.2.1 := ⟨_, rfl⟩
  obtain ⟨x6, e6⟩ : ∃ x : Int, x = d.2.1 := ⟨_, rfl⟩
  obtain ⟨x9, e9⟩ : ∃ x : Int, x = d.2.2.2.2.1 := ⟨_, rfl⟩
  rw [sz_Vt] at hs
  have q0 : Hid (∀ w', Below w.heap.size w w' → Calls Tryd.prog 29 #[.agg #[.int .i64 x0, .int .i64 x1, .slice a2 n2 c2, .int .i64 x3, .int .i64 x4, .bool x5], .agg #[.int .i64 x0, .int .i64 x1, .slice p2 m2 k2, .int .i64 x3, .int .i64 x4, .bool x5]] w' fun e w'' => e = .returned (.bool true) ∧ Below w'.heap.size w' w'') := fun w' h' => by rw [e0, e1, e3, e4, e5]; exact eqGrid_any _ _ _ w' (r0.later h') (t0.later h') (by show Sh.sz shGrid _ ≤ _; omega)
  obtain rfl : n7 = m7 := (reads_len r2).1.symm.trans (reads_len t2).1
  have q2 : Hid (∀ w', Below w.heap.size w w' → Calls Tryd.prog 30 #[.slice a7 n7 c7, .slice p7 n7 k7] w' fun e w'' => e = .returned (.bool true) ∧ Below w'.heap.size w' w'') := fun w' h' => eqIntS_reads a7 p7 n7 c7 k7 _ w' (r2.later h') (t2.later h') (by omega)
  obtain rfl : n8 = m8 := (reads_len r3).1.symm.trans (reads_len t3).1
  have q3 : Hid (∀ w', Below w.heap.size w w' → Calls Tryd.prog 18 #[.slice a8 n8 c8, .slice p8 n8 k8] w' fun e w'' => e = .returned (.bool true) ∧ Below w'.heap.size w' w'') := fun w' h' => eqByteS_reads a8 p8 n8 c8 k8 _ w' (r3.later h') (t3.later h') (by omega)
  rw [← e0, ← e1, ← e3, ← e4, ← e5, ← e6, ← e9]
  have ne6 : (x6 != x6) = false := by simp
  have ne9 : (x9 != x9) = false := by simp
  clear hr hq hs r0 t0 r2 t2 r3 t3 e0 e1 e3 e4 e5 e6 e9
  obtain ⟨W0, hW0⟩ : ∃ W0, W0 = (w.alloc (.cells #[.int .i64 x0, .int .i64 x1, .slice a2 n2 c2, .int .i64 x3, .int .i64 x4, .bool x5, .int .i64 x6, .slice a7 n7 c7, .slice a8 n8 c8, .int .i64 x9] 32)).alloc (.cells #[.int .i64 x0, .int .i64 x1, .slice p2 m2 k2, .int .i64 x3, .int .i64 x4, .bool x5, .int .i64 x6, .slice p7 n7 k7, .slice p8 n8 k8, .int .i64 x9] 32) := ⟨_, rfl⟩
  have bW0 : Below w.heap.size w W0 := by rw [hW0]; exact ((Below.refl _ _).alloc (Nat.le_refl _) _).alloc (by simp) _
  have hA : W0.heap[w.heap.size]? = some (.cells #[.int .i64 x0, .int .i64 x1, .slice a2 n2 c2, .int .i64 x3, .int .i64 x4, .bool x5, .int .i64 x6, .slice a7 n7 c7, .slice a8 n8 c8, .int .i64 x9] 32 (0, 0)) := by rw [hW0, heap_alloc_old _ _ (by simp)]; exact heap_alloc_new w _
  have hB : W0.heap[w.heap.size + 1]? = some (.cells #[.int .i64 x0, .int .i64 x1, .slice p2 m2 k2, .int .i64 x3, .int .i64 x4, .bool x5, .int .i64 x6, .slice p7 n7 k7, .slice p8 n8 k8, .int .i64 x9] 32 (0, 0)) := by rw [hW0]; exact (by have := heap_alloc_new (w.alloc (.cells #[.int .i64 x0, .int .i64 x1, .slice a2 n2 c2, .int .i64 x3, .int .i64 x4, .bool x5, .int .i64 x6, .slice a7 n7 c7, .slice a8 n8 c8, .int .i64 x9] 32)) (.cells #[.int .i64 x0, .int .i64 x1, .slice p2 m2 k2, .int .i64 x3, .int .i64 x4, .bool x5, .int .i64 x6, .slice p7 n7 k7, .slice p8 n8 k8, .int .i64 x9] 32); simpa using this)
  have zW0 : W0.heap.size = w.heap.size + 1 + 1 := by rw [hW0]; simp
  have HW0 : Hid (W0 = _) := hW0
  have HAB : Hid (_ ∧ _) := ⟨hA, hB⟩
  clear hW0 hA hB
  go_enter Tryd.func10, Tryd.ntmps10
  go_wp2_with fail
  rw [← HW0.out]
  refine (q0.out _ bW0).mono ?_
  rintro e w0 ⟨rfl, hb0⟩
  have b0 := bW0.trans (hb0.mono bW0.size)
  have z0 := hb0.size
  have iA : w0.heap[w.heap.size]? = some (.cells #[.int .i64 x0, .int .i64 x1, .slice a2 n2 c2, .int .i64 x3, .int .i64 x4, .bool x5, .int .i64 x6, .slice a7 n7 c7, .slice a8 n8 c8, .int .i64 x9] 32 (0, 0)) := (hb0.block _ (by omega)).trans HAB.out.1
  have iB : w0.heap[w.heap.size + 1]? = some (.cells #[.int .i64 x0, .int .i64 x1, .slice p2 m2 k2, .int .i64 x3, .int .i64 x4, .bool x5, .int .i64 x6, .slice p7 n7 k7, .slice p8 n8 k8, .int .i64 x9] 32 (0, 0)) := (hb0.block _ (by omega)).trans HAB.out.2
  have ya0_6 : w0.cell? ⟨w.heap.size, 6, none⟩ = some (.int .i64 x6) := box_cell iA rfl
  have yb0_6 : w0.cell? ⟨w.heap.size + 1, 6, none⟩ = some (.int .i64 x6) := box_cell iB rfl
  have ya0_7 : w0.cell? ⟨w.heap.size, 7, none⟩ = some (.slice a7 n7 c7) := box_cell iA rfl
  have yb0_7 : w0.cell? ⟨w.heap.size + 1, 7, none⟩ = some (.slice p7 n7 k7) := box_cell iB rfl
  have ya0_8 : w0.cell? ⟨w.heap.size, 8, none⟩ = some (.slice a8 n8 c8) := box_cell iA rfl
  have yb0_8 : w0.cell? ⟨w.heap.size + 1, 8, none⟩ = some (.slice p8 n8 k8) := box_cell iB rfl
  have ya0_9 : w0.cell? ⟨w.heap.size, 9, none⟩ = some (.int .i64 x9) := box_cell iA rfl
  have yb0_9 : w0.cell? ⟨w.heap.size + 1, 9, none⟩ = some (.int .i64 x9) := box_cell iB rfl
  have I0 : Hid (_ ∧ _) := ⟨iA, iB⟩
  clear iA iB hb0
  go_wp2_with fail
  refine (q2.out _ b0).mono ?_
  rintro e w2 ⟨rfl, hb2⟩
  have b2 := b0.trans (hb2.mono b0.size)
  have z2 := hb2.size
  have iA : w2.heap[w.heap.size]? = some (.cells #[.int .i64 x0, .int .i64 x1, .slice a2 n2 c2, .int .i64 x3, .int .i64 x4, .bool x5, .int .i64 x6, .slice a7 n7 c7, .slice a8 n8 c8, .int .i64 x9] 32 (0, 0)) := (hb2.block _ (by omega)).trans I0.out.1
  have iB : w2.heap[w.heap.size + 1]? = some (.cells #[.int .i64 x0, .int .i64 x1, .slice p2 m2 k2, .int .i64 x3, .int .i64 x4, .bool x5, .int .i64 x6, .slice p7 n7 k7, .slice p8 n8 k8, .int .i64 x9] 32 (0, 0)) := (hb2.block _ (by omega)).trans I0.out.2
  have ya2_8 : w2.cell? ⟨w.heap.size, 8, none⟩ = some (.slice a8 n8 c8) := box_cell iA rfl
  have yb2_8 : w2.cell? ⟨w.heap.size + 1, 8, none⟩ = some (.slice p8 n8 k8) := box_cell iB rfl
  have ya2_9 : w2.cell? ⟨w.heap.size, 9, none⟩ = some (.int .i64 x9) := box_cell iA rfl
  have yb2_9 : w2.cell? ⟨w.heap.size + 1, 9, none⟩ = some (.int .i64 x9) := box_cell iB rfl
  have I2 : Hid (_ ∧ _) := ⟨iA, iB⟩
  clear iA iB hb2
  go_wp2_with fail
  refine (q3.out _ b2).mono ?_
  rintro e w3 ⟨rfl, hb3⟩
  have b3 := b2.trans (hb3.mono b2.size)
  have z3 := hb3.size
  have iA : w3.heap[w.heap.size]? = some (.cells #[.int .i64 x0, .int .i64 x1, .slice a2 n2 c2, .int .i64 x3, .int .i64 x4, .bool x5, .int .i64 x6, .slice a7 n7 c7, .slice a8 n8 c8, .int .i64 x9] 32 (0, 0)) := (hb3.block _ (by omega)).trans I2.out.1
  have iB : w3.heap[w.heap.size + 1]? = some (.cells #[.int .i64 x0, .int .i64 x1, .slice p2 m2 k2, .int .i64 x3, .int .i64 x4, .bool x5, .int .i64 x6, .slice p7 n7 k7, .slice p8 n8 k8, .int .i64 x9] 32 (0, 0)) := (hb3.block _ (by omega)).trans I2.out.2
  have ya3_9 : w3.cell? ⟨w.heap.size, 9, none⟩ = some (.int .i64 x9) := box_cell iA rfl
  have yb3_9 : w3.cell? ⟨w.heap.size + 1, 9, none⟩ = some (.int .i64 x9) := box_cell iB rfl
  have I3 : Hid (_ ∧ _) := ⟨iA, iB⟩
  clear iA iB hb3
  go_wp2
  go_ret
  exact ⟨rfl, b3⟩

end Go.Proofs.YtojalheohpkdoaaDoor
