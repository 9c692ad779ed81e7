/-
  The type Store of the laws, which has structs among its fields: its shape, and what szStore, toStore, eqStore do. By program (tygen2.py).
-/
import Derived.Test.YtdmgknmlgipnpaaTyBase
import Derived.Handy
import Derived.Deep.RegionHeld3
import Derived.Test.YtdmgknmlgipnpaaTyDisk
import Derived.Test.YtdmgknmlgipnpaaTyEntry
namespace Go.Proofs.Ytdmgknmlgipnpaa
open Go.RowKit
set_option linter.unusedVariables false

def shStore : Sh := Sh.ofL [shDisk, .int, .int, (.sl shEntry), .int]

theorem open_Store {w : World} {cs : List Value} {d : shStore.D} (h : Reads shStore w cs d) :
    ∃ a3 n3 c3 a4 n4 c4 a5 n5 c5 a8 n8 c8, cs = [.int .i64 (d.1.1), .int .i64 (d.1.2.1), .int .i64 (d.1.2.2.1), .slice a3 n3 c3, .slice a4 n4 c4, .slice a5 n5 c5, .int .i64 (d.2.1), .int .i64 (d.2.2.1), .slice a8 n8 c8, .int .i64 (d.2.2.2.2.1)] ∧ Reads shDisk w [.int .i64 (d.1.1), .int .i64 (d.1.2.1), .int .i64 (d.1.2.2.1), .slice a3 n3 c3, .slice a4 n4 c4, .slice a5 n5 c5] d.1 ∧ Reads (.sl shEntry) w [.slice a8 n8 c8] d.2.2.2.1 := by
  obtain ⟨_, _, rfl, h0, _, _, rfl, h1, _, _, rfl, h2, _, _, rfl, h3, _, _, rfl, h4, hE⟩ := h
  have g0 := h0
  obtain ⟨a3, n3, c3, a4, n4, c4, a5, n5, c5, e0, _⟩ := open_Disk g0
  have e1 : _ = _ := h1
  have e2 : _ = _ := h2
  have g3 := h3
  obtain ⟨a8, c8, e3, _⟩ := g3
  have e4 : _ = _ := h4
  have eE : _ = _ := hE
  subst e0 e1 e2 e3 e4 eE
  exact ⟨a3, n3, c3, a4, n4, c4, a5, n5, c5, a8, _, c8, rfl, h0, h3⟩

theorem own_Store {w : World} {B : Nat} {d : shStore.D} {v3 : Value} {v4 : Value} {v5 : Value} {F0 : List Nat} {v8 : Value} {F3 : List Nat} (o0 : Own shDisk w B [.int .i64 (d.1.1), .int .i64 (d.1.2.1), .int .i64 (d.1.2.2.1), v3, v4, v5] d.1 F0) (o3 : Own (.sl shEntry) w B [v8] d.2.2.2.1 F3) :
    Own shStore w B [.int .i64 (d.1.1), .int .i64 (d.1.2.1), .int .i64 (d.1.2.2.1), v3, v4, v5, .int .i64 (d.2.1), .int .i64 (d.2.2.1), v8, .int .i64 (d.2.2.2.2.1)] d (F0 ++ (F3 ++ ([]))) := by
  exact ⟨[_, _, _, _, _, _], _, F0, F3 ++ ([]), rfl, rfl, o0, ⟨[_], _, [], F3 ++ ([]), rfl, rfl, ⟨rfl, rfl⟩, ⟨[_], _, [], F3 ++ ([]), rfl, rfl, ⟨rfl, rfl⟩, ⟨[_], _, F3, [], rfl, rfl, o3, ⟨[_], _, [], [], rfl, rfl, ⟨rfl, rfl⟩, ⟨rfl, rfl⟩⟩⟩⟩⟩⟩

theorem size_Store : shStore.size = 10 := rfl

theorem sz_Store (d : shStore.D) : shStore.sz d = Sh.sz shDisk d.1 + Sh.sz (.sl shEntry) d.2.2.2.1 := by
  show Sh.sz shDisk d.1 + (0 + (0 + (Sh.sz (.sl shEntry) d.2.2.2.1 + (0 + (0))))) = _
  omega

set_option maxHeartbeats 2000000 in
theorem szStore_any (cs : List Value) (d : shStore.D) (left : Int) (w : World) (hr : Reads shStore w cs d) (h0 : 0 ≤ left) (h1 : left ≤ 1048576) :
    Calls Try.prog 27 #[.agg cs.toArray, .int .i64 left] w fun e w' => e = .returned (.int .i64 (szAns (shStore.sz d) left)) ∧ Below w.heap.size w w' := by
  obtain ⟨a3, n3, c3, a4, n4, c4, a5, n5, c5, a8, n8, c8, rfl, r0, r3⟩ := open_Store hr
  obtain ⟨x0, e0⟩ : ∃ x : Int, x = d.1.1 := ⟨_, rfl⟩
  obtain ⟨x1, e1⟩ : ∃ x : Int, x = d.1.2.1 := ⟨_, rfl⟩
  obtain ⟨x2, e2⟩ : ∃ x : Int, x = d.1.2.2.1 := ⟨_, rfl⟩
  obtain ⟨x6, e6⟩ : ∃ x : Int, x = d.2.1 := ⟨_, rfl⟩
  obtain ⟨x7, e7⟩ : ∃ x : Int, x = d.2.2.1 := ⟨_, rfl⟩
  obtain ⟨x9, e9⟩ : ∃ x : Int, x = d.2.2.2.2.1 := ⟨_, rfl⟩
  rw [sz_Store]
  obtain ⟨k0, hk0⟩ : ∃ k, k = Sh.sz shDisk d.1 := ⟨_, rfl⟩
  have q0 : Hid (∀ w', Below w.heap.size w w' → ∀ l : Int, 0 ≤ l → l ≤ 1048576 → Calls Try.prog 28 #[.agg #[.int .i64 x0, .int .i64 x1, .int .i64 x2, .slice a3 n3 c3, .slice a4 n4 c4, .slice a5 n5 c5], .int .i64 l] w' fun e w'' => e = .returned (.int .i64 (szAns k0 l)) ∧ Below w'.heap.size w' w'') := fun w' hb l l0 l1 => by rw [hk0, e0, e1, e2]; exact szDisk_any _ _ l w' (r0.later hb) l0 l1
  obtain ⟨k3, hk3⟩ : ∃ k, k = Sh.sz (.sl shEntry) d.2.2.2.1 := ⟨_, rfl⟩
  have q3 : Hid (∀ w', Below w.heap.size w w' → ∀ l : Int, 0 ≤ l → l ≤ 1048576 → Calls Try.prog 29 #[.slice a8 n8 c8, .int .i64 l] w' fun e w'' => e = .returned (.int .i64 (szAns k3 l)) ∧ Below w'.heap.size w' w'') := fun w' hb l l0 l1 => by rw [hk3]; exact szEntryS_any a8 n8 c8 _ l w' (r3.later hb) l0 l1
  rw [← hk0, ← hk3]
  rw [← e0, ← e1, ← e2, ← e6, ← e7, ← e9]
  clear hr r0 hk0 r3 hk3 e0 e1 e2 e6 e7 e9
  obtain ⟨W0, hW0⟩ : ∃ W0, W0 = w.alloc (.cells #[.int .i64 x0, .int .i64 x1, .int .i64 x2, .slice a3 n3 c3, .slice a4 n4 c4, .slice a5 n5 c5, .int .i64 x6, .int .i64 x7, .slice a8 n8 c8, .int .i64 x9] 44) := ⟨_, rfl⟩
  have bW0 : Below w.heap.size w W0 := by rw [hW0]; exact (Below.refl _ _).alloc (Nat.le_refl _) _
  have hbox : W0.heap[w.heap.size]? = some (.cells #[.int .i64 x0, .int .i64 x1, .int .i64 x2, .slice a3 n3 c3, .slice a4 n4 c4, .slice a5 n5 c5, .int .i64 x6, .int .i64 x7, .slice a8 n8 c8, .int .i64 x9] 44 (0, 0)) := by rw [hW0]; exact heap_alloc_new w _
  have zW0 : W0.heap.size = w.heap.size + 1 := by rw [hW0]; simp
  have HW0 : Hid (W0 = _) := hW0
  have HBX : Hid _ := hbox
  clear hW0 hbox
  go_enter Try.func27, Try.ntmps27
  go_wp2_with fail
  rw [← HW0.out]
  refine (q0.out _ bW0 (left) (by omega) (by omega)).mono ?_
  rintro e w0 ⟨rfl, hb0⟩
  have b0 := bW0.trans (hb0.mono bW0.size)
  have i0 : w0.heap[w.heap.size]? = _ := (hb0.block _ (by rw [zW0]; omega)).trans HBX.out
  have z0 := hb0.size
  rw [zW0] at z0
  have y0_6 : w0.cell? ⟨w.heap.size, 6, none⟩ = some (.int .i64 x6) := box_cell i0 rfl
  have y0_7 : w0.cell? ⟨w.heap.size, 7, none⟩ = some (.int .i64 x7) := box_cell i0 rfl
  have y0_8 : w0.cell? ⟨w.heap.size, 8, none⟩ = some (.slice a8 n8 c8) := box_cell i0 rfl
  have y0_9 : w0.cell? ⟨w.heap.size, 9, none⟩ = some (.int .i64 x9) := box_cell i0 rfl
  have I0 : Hid _ := i0
  clear i0 hb0
  by_cases t0 : (k0 : Int) ≤ left
  rotate_left
  · rw [szAns_no t0]
    have E : Hid (szAns (k0 + k3) left = -1) := szAns_no (by omega)
    go_wp2
    go_ret
    exact ⟨by rw [E.out]; rfl, b0⟩
  rw [szAns_yes t0]
  have u0 : ¬ (left - (k0 : Int) < 0) := by omega
  go_wp2_with fail
  refine (q3.out _ b0 (left - (k0 : Int)) (by omega) (by omega)).mono ?_
  rintro e w3 ⟨rfl, hb3⟩
  have b3 := b0.trans (hb3.mono b0.size)
  have i3 : w3.heap[w.heap.size]? = _ := (hb3.block _ (by omega)).trans I0.out
  have z3 := hb3.size
  have y3_9 : w3.cell? ⟨w.heap.size, 9, none⟩ = some (.int .i64 x9) := box_cell i3 rfl
  have I3 : Hid _ := i3
  clear i3 hb3
  by_cases t3 : (k3 : Int) ≤ left - (k0 : Int)
  rotate_left
  · rw [szAns_no t3]
    have E : Hid (szAns (k0 + k3) left = -1) := szAns_no (by omega)
    go_wp2
    go_ret
    exact ⟨by rw [E.out]; rfl, b3⟩
  rw [szAns_yes t3]
  have u3 : ¬ (left - (k0 : Int) - (k3 : Int) < 0) := by omega
  have E : Hid (szAns (k0 + k3) left = left - (k0 : Int) - (k3 : Int)) := by show _ = _; rw [szAns_yes (by omega)]; omega
  go_wp2
  go_ret
  exact ⟨by rw [E.out]; rfl, b3⟩

theorem opens_Store {H : Type} {enc : TypeId × Value → H} {w : World} {spare : Nat → Bool} {held : Bool} : Opens enc Try.prog w spare held 44 shStore := by
  refine opens_struct [shDisk, .int, .int, (.sl shEntry), .int] Try.underlying44 (by kernel_rfl) (fun i s hi => ?_)
  match i, hi with
  | 0, hi => obtain rfl := Option.some.inj hi; exact ⟨_, rfl, opens_Disk, rfl⟩
  | 1, hi => obtain rfl := Option.some.inj hi; exact ⟨_, rfl, opens_int Try.underlying3 (by kernel_rfl), rfl⟩
  | 2, hi => obtain rfl := Option.some.inj hi; exact ⟨_, rfl, opens_int Try.underlying3 (by kernel_rfl), rfl⟩
  | 3, hi => obtain rfl := Option.some.inj hi; exact ⟨_, rfl, opens_sl Try.underlying42 (by kernel_rfl) (by decide) opens_Entry, rfl⟩
  | 4, hi => obtain rfl := Option.some.inj hi; exact ⟨_, rfl, opens_int Try.underlying3 (by kernel_rfl), rfl⟩
  | n + 5, hi => simp at hi

set_option maxRecDepth 100000 in
set_option maxHeartbeats 4000000 in
theorem toStore_any (cs : List Value) (d : shStore.D) (w : World) (hr : Reads shStore w cs d) (hs : shStore.sz d ≤ 1048576) :
    Calls Try.prog 31 #[.agg cs.toArray] w fun e w' => ∃ cs' F, e = .returned (.agg cs'.toArray) ∧ Own shStore w' w.heap.size cs' d F ∧ F.Nodup ∧ Below w.heap.size w w' := by
  obtain ⟨a3, n3, c3, a4, n4, c4, a5, n5, c5, a8, n8, c8, rfl, r0, r3⟩ := open_Store hr
  obtain ⟨x0, e0⟩ : ∃ x : Int, x = d.1.1 := ⟨_, rfl⟩
  obtain ⟨x1, e1⟩ : ∃ x : Int, x = d.1.2.1 := ⟨_, rfl⟩
  obtain ⟨x2, e2⟩ : ∃ x : Int, x = d.1.2.2.1 := ⟨_, rfl⟩
  obtain ⟨x6, e6⟩ : ∃ x : Int, x = d.2.1 := ⟨_, rfl⟩
  obtain ⟨x7, e7⟩ : ∃ x : Int, x = d.2.2.1 := ⟨_, rfl⟩
  obtain ⟨x9, e9⟩ : ∃ x : Int, x = d.2.2.2.2.1 := ⟨_, rfl⟩
  rw [sz_Store] at hs
  have q0 : Hid (∀ w', Below w.heap.size w w' → Calls Try.prog 32 #[.agg #[.int .i64 x0, .int .i64 x1, .int .i64 x2, .slice a3 n3 c3, .slice a4 n4 c4, .slice a5 n5 c5]] w' fun e w'' => ∃ (g3 : Option Addr) (m3 k3 : Nat) (g4 : Option Addr) (m4 k4 : Nat) (g5 : Option Addr) (m5 k5 : Nat) (F : List Nat), e = .returned (.agg #[.int .i64 x0, .int .i64 x1, .int .i64 x2, .slice g3 m3 k3, .slice g4 m4 k4, .slice g5 m5 k5]) ∧ Own shDisk w'' w'.heap.size [.int .i64 x0, .int .i64 x1, .int .i64 x2, .slice g3 m3 k3, .slice g4 m4 k4, .slice g5 m5 k5] d.1 F ∧ F.Nodup ∧ Below w'.heap.size w' w'') := fun w' h' => by
    rw [e0, e1, e2]
    refine (toDisk_any _ _ w' (r0.later h') (by show Sh.sz shDisk _ ≤ _; omega)).mono ?_
    rintro e w'' ⟨cs', F, rfl, ho, hn, hb⟩
    obtain ⟨_, _, _, _, _, _, _, _, _, e, _⟩ := open_Disk ho.reads
    subst e
    exact ⟨_, _, _, _, _, _, _, _, _, F, rfl, ho, hn, hb⟩
  have q3 : Hid (∀ w', Below w.heap.size w w' → Calls Try.prog 33 #[.slice a8 n8 c8] w' fun e w'' => ∃ (g8 : Option Addr) (m8 k8 : Nat) (F : List Nat), e = .returned (.slice g8 m8 k8) ∧ Own (.sl shEntry) w'' w'.heap.size [.slice g8 m8 k8] d.2.2.2.1 F ∧ F.Nodup ∧ Below w'.heap.size w' w'') := fun w' h' => by
    refine (toEntryS_own a8 n8 c8 _ w' (r3.later h') (by omega)).mono ?_
    rintro e w'' ⟨g, F, rfl, ho, hn, hb⟩
    exact ⟨_, _, _, F, rfl, ho, hn, hb⟩
  rw [← e0, ← e1, ← e2, ← e6, ← e7, ← e9]
  have HE : Hid (x0 = d.1.1 ∧ x1 = d.1.2.1 ∧ x2 = d.1.2.2.1 ∧ x6 = d.2.1 ∧ x7 = d.2.2.1 ∧ x9 = d.2.2.2.2.1 ∧ True) := ⟨e0, e1, e2, e6, e7, e9, trivial⟩
  obtain ⟨i0, i1, i2, isz⟩ := alloc3_heap w (.cells #[.int .i64 x0, .int .i64 x1, .int .i64 x2, .slice a3 n3 c3, .slice a4 n4 c4, .slice a5 n5 c5, .int .i64 x6, .int .i64 x7, .slice a8 n8 c8, .int .i64 x9] 44) (.cells #[.int .i64 0, .int .i64 0, .int .i64 0, .slice none 0 0, .slice none 0 0, .slice none 0 0, .int .i64 0, .int .i64 0, .slice none 0 0, .int .i64 0] 29) (.cells #[.int .i64 0, .int .i64 0, .int .i64 0, .slice none 0 0, .slice none 0 0, .slice none 0 0, .int .i64 0, .int .i64 0, .slice none 0 0, .int .i64 0] 29)
  obtain ⟨W0, hW0⟩ : ∃ W0, W0 = ((w.alloc (.cells #[.int .i64 x0, .int .i64 x1, .int .i64 x2, .slice a3 n3 c3, .slice a4 n4 c4, .slice a5 n5 c5, .int .i64 x6, .int .i64 x7, .slice a8 n8 c8, .int .i64 x9] 44)).alloc (.cells #[.int .i64 0, .int .i64 0, .int .i64 0, .slice none 0 0, .slice none 0 0, .slice none 0 0, .int .i64 0, .int .i64 0, .slice none 0 0, .int .i64 0] 29)).alloc (.cells #[.int .i64 0, .int .i64 0, .int .i64 0, .slice none 0 0, .slice none 0 0, .slice none 0 0, .int .i64 0, .int .i64 0, .slice none 0 0, .int .i64 0] 29) := ⟨_, rfl⟩
  rw [← hW0] at i0 i1 i2 isz
  have bW0 : Below w.heap.size w W0 := by rw [hW0]; exact (((Below.refl _ _).alloc (Nat.le_refl _) _).alloc (by simp) _).alloc (by simp; omega) _
  have HW0 : Hid (W0 = _) := hW0
  have HI : Hid (_ ∧ _ ∧ _) := ⟨i0, i1, i2⟩
  clear hr hs hW0 i0 i1 i2 r0 r3 e0 e1 e2 e6 e7 e9
  go_enter Try.func31, Try.ntmps31
  go_wp2_with fail
  rw [← HW0.out]
  refine (q0.out _ bW0).mono ?_
  rintro e w0 ⟨g3, m3, k3, g4, m4, k4, g5, m5, k5, F0, rfl, o0, nd0, hb0⟩
  have b0 := bW0.trans (hb0.mono bW0.size)
  have z0 := hb0.size
  have iA : w0.heap[w.heap.size]? = some (.cells #[.int .i64 x0, .int .i64 x1, .int .i64 x2, .slice a3 n3 c3, .slice a4 n4 c4, .slice a5 n5 c5, .int .i64 x6, .int .i64 x7, .slice a8 n8 c8, .int .i64 x9] 44 (0, 0)) := (hb0.block _ (by omega)).trans HI.out.1
  have iB : w0.heap[w.heap.size + 1]? = some (.cells #[.int .i64 0, .int .i64 0, .int .i64 0, .slice none 0 0, .slice none 0 0, .slice none 0 0, .int .i64 0, .int .i64 0, .slice none 0 0, .int .i64 0] 29 (0, 0)) := (hb0.block _ (by omega)).trans HI.out.2.1
  have iC : w0.heap[w.heap.size + 1 + 1]? = some (.cells #[.int .i64 0, .int .i64 0, .int .i64 0, .slice none 0 0, .slice none 0 0, .slice none 0 0, .int .i64 0, .int .i64 0, .slice none 0 0, .int .i64 0] 29 (0, 0)) := (hb0.block _ (by omega)).trans HI.out.2.2
  have ya0_6 : w0.cell? ⟨w.heap.size, 6, none⟩ = some (.int .i64 x6) := box_cell iA rfl
  have ya0_7 : w0.cell? ⟨w.heap.size, 7, none⟩ = some (.int .i64 x7) := box_cell iA rfl
  have ya0_8 : w0.cell? ⟨w.heap.size, 8, none⟩ = some (.slice a8 n8 c8) := box_cell iA rfl
  have ya0_9 : w0.cell? ⟨w.heap.size, 9, none⟩ = some (.int .i64 x9) := box_cell iA rfl
  have yb0_0 : w0.cell? ⟨w.heap.size + 1 + 1, 0, none⟩ = some (.int .i64 0) := box_cell iC rfl
  have yf0_0 : w0.frozen? ⟨w.heap.size + 1 + 1, 0, none⟩ = false := box_frozen iC
  have yb0_1 : w0.cell? ⟨w.heap.size + 1 + 1, 1, none⟩ = some (.int .i64 0) := box_cell iC rfl
  have yf0_1 : w0.frozen? ⟨w.heap.size + 1 + 1, 1, none⟩ = false := box_frozen iC
  have yb0_2 : w0.cell? ⟨w.heap.size + 1 + 1, 2, none⟩ = some (.int .i64 0) := box_cell iC rfl
  have yf0_2 : w0.frozen? ⟨w.heap.size + 1 + 1, 2, none⟩ = false := box_frozen iC
  have yb0_3 : w0.cell? ⟨w.heap.size + 1 + 1, 3, none⟩ = some (.slice none 0 0) := box_cell iC rfl
  have yf0_3 : w0.frozen? ⟨w.heap.size + 1 + 1, 3, none⟩ = false := box_frozen iC
  have yb0_4 : w0.cell? ⟨w.heap.size + 1 + 1, 4, none⟩ = some (.slice none 0 0) := box_cell iC rfl
  have yf0_4 : w0.frozen? ⟨w.heap.size + 1 + 1, 4, none⟩ = false := box_frozen iC
  have yb0_5 : w0.cell? ⟨w.heap.size + 1 + 1, 5, none⟩ = some (.slice none 0 0) := box_cell iC rfl
  have yf0_5 : w0.frozen? ⟨w.heap.size + 1 + 1, 5, none⟩ = false := box_frozen iC
  have yb0_6 : w0.cell? ⟨w.heap.size + 1 + 1, 6, none⟩ = some (.int .i64 0) := box_cell iC rfl
  have yf0_6 : w0.frozen? ⟨w.heap.size + 1 + 1, 6, none⟩ = false := box_frozen iC
  have yb0_7 : w0.cell? ⟨w.heap.size + 1 + 1, 7, none⟩ = some (.int .i64 0) := box_cell iC rfl
  have yf0_7 : w0.frozen? ⟨w.heap.size + 1 + 1, 7, none⟩ = false := box_frozen iC
  rw [isz] at o0
  obtain ⟨W0, hW0⟩ : ∃ W, W = ((((((((w0).setCell ⟨w.heap.size + 1 + 1, 0, none⟩ (.int .i64 x0)).setCell ⟨w.heap.size + 1 + 1, 1, none⟩ (.int .i64 x1)).setCell ⟨w.heap.size + 1 + 1, 2, none⟩ (.int .i64 x2)).setCell ⟨w.heap.size + 1 + 1, 3, none⟩ (.slice g3 m3 k3)).setCell ⟨w.heap.size + 1 + 1, 4, none⟩ (.slice g4 m4 k4)).setCell ⟨w.heap.size + 1 + 1, 5, none⟩ (.slice g5 m5 k5)).setCell ⟨w.heap.size + 1 + 1, 6, none⟩ (.int .i64 x6)).setCell ⟨w.heap.size + 1 + 1, 7, none⟩ (.int .i64 x7) := ⟨_, rfl⟩
  have bW0 : Below w.heap.size w W0 := by rw [hW0]; exact ((((((((b0.setCell (by simp <;> omega) _).setCell (by simp <;> omega) _).setCell (by simp <;> omega) _).setCell (by simp <;> omega) _).setCell (by simp <;> omega) _).setCell (by simp <;> omega) _).setCell (by simp <;> omega) _).setCell (by simp <;> omega) _)
  have zW0 : w0.heap.size = W0.heap.size := by rw [hW0]; simp
  have jA : W0.heap[w.heap.size]? = some (.cells #[.int .i64 x0, .int .i64 x1, .int .i64 x2, .slice a3 n3 c3, .slice a4 n4 c4, .slice a5 n5 c5, .int .i64 x6, .int .i64 x7, .slice a8 n8 c8, .int .i64 x9] 44 (0, 0)) := by rw [hW0]; exact (((box_other _ (by omega)).trans ((box_other _ (by omega)).trans ((box_other _ (by omega)).trans ((box_other _ (by omega)).trans ((box_other _ (by omega)).trans ((box_other _ (by omega)).trans ((box_other _ (by omega)).trans (box_other _ (by omega)))))))))).trans iA
  have jB : W0.heap[w.heap.size + 1]? = some (.cells #[.int .i64 0, .int .i64 0, .int .i64 0, .slice none 0 0, .slice none 0 0, .slice none 0 0, .int .i64 0, .int .i64 0, .slice none 0 0, .int .i64 0] 29 (0, 0)) := by rw [hW0]; exact (((box_other _ (by omega)).trans ((box_other _ (by omega)).trans ((box_other _ (by omega)).trans ((box_other _ (by omega)).trans ((box_other _ (by omega)).trans ((box_other _ (by omega)).trans ((box_other _ (by omega)).trans (box_other _ (by omega)))))))))).trans iB
  have jC : W0.heap[w.heap.size + 1 + 1]? = some (.cells #[.int .i64 x0, .int .i64 x1, .int .i64 x2, .slice g3 m3 k3, .slice g4 m4 k4, .slice g5 m5 k5, .int .i64 x6, .int .i64 x7, .slice none 0 0, .int .i64 0] 29 (0, 0)) := by rw [hW0]; exact box_set _ (box_set _ (box_set _ (box_set _ (box_set _ (box_set _ (box_set _ (box_set _ iC)))))))
  have oW0_0 : Own shDisk W0 (w.heap.size + 1 + 1 + 1) [.int .i64 x0, .int .i64 x1, .int .i64 x2, .slice g3 m3 k3, .slice g4 m4 k4, .slice g5 m5 k5] d.1 F0 := by rw [hW0]; exact o0.keep fun g hg => (((box_other _ (by have := (o0.lt g hg).1; omega)).trans ((box_other _ (by have := (o0.lt g hg).1; omega)).trans ((box_other _ (by have := (o0.lt g hg).1; omega)).trans ((box_other _ (by have := (o0.lt g hg).1; omega)).trans ((box_other _ (by have := (o0.lt g hg).1; omega)).trans ((box_other _ (by have := (o0.lt g hg).1; omega)).trans ((box_other _ (by have := (o0.lt g hg).1; omega)).trans (box_other _ (by have := (o0.lt g hg).1; omega))))))))))
  have OW0_0 : Hid (Own shDisk W0 (w.heap.size + 1 + 1 + 1) [.int .i64 x0, .int .i64 x1, .int .i64 x2, .slice g3 m3 k3, .slice g4 m4 k4, .slice g5 m5 k5] d.1 F0) := oW0_0
  have TOP0 : ∀ x ∈ F0, x < W0.heap.size := fun x hx => (oW0_0.lt x hx).2
  have HJ0 : Hid (_ ∧ _ ∧ _) := ⟨jA, jB, jC⟩
  go_wp2_with fail
  rw [← hW0]
  clear hW0 iA iB iC jA jB jC b0 hb0 o0 oW0_0 ya0_6 ya0_7 ya0_8 ya0_9 yb0_0 yf0_0 yb0_1 yf0_1 yb0_2 yf0_2 yb0_3 yf0_3 yb0_4 yf0_4 yb0_5 yf0_5 yb0_6 yf0_6 yb0_7 yf0_7
  refine (q3.out _ bW0).mono ?_
  rintro e w3 ⟨g8, m8, k8, F3, rfl, o3, nd3, hb3⟩
  have b3 := bW0.trans (hb3.mono bW0.size)
  have z3 := hb3.size
  have iA : w3.heap[w.heap.size]? = some (.cells #[.int .i64 x0, .int .i64 x1, .int .i64 x2, .slice a3 n3 c3, .slice a4 n4 c4, .slice a5 n5 c5, .int .i64 x6, .int .i64 x7, .slice a8 n8 c8, .int .i64 x9] 44 (0, 0)) := (hb3.block _ (by omega)).trans HJ0.out.1
  have iB : w3.heap[w.heap.size + 1]? = some (.cells #[.int .i64 0, .int .i64 0, .int .i64 0, .slice none 0 0, .slice none 0 0, .slice none 0 0, .int .i64 0, .int .i64 0, .slice none 0 0, .int .i64 0] 29 (0, 0)) := (hb3.block _ (by omega)).trans HJ0.out.2.1
  have iC : w3.heap[w.heap.size + 1 + 1]? = some (.cells #[.int .i64 x0, .int .i64 x1, .int .i64 x2, .slice g3 m3 k3, .slice g4 m4 k4, .slice g5 m5 k5, .int .i64 x6, .int .i64 x7, .slice none 0 0, .int .i64 0] 29 (0, 0)) := (hb3.block _ (by omega)).trans HJ0.out.2.2
  have p0_3 := OW0_0.out.later hb3
  have ya3_9 : w3.cell? ⟨w.heap.size, 9, none⟩ = some (.int .i64 x9) := box_cell iA rfl
  have yb3_8 : w3.cell? ⟨w.heap.size + 1 + 1, 8, none⟩ = some (.slice none 0 0) := box_cell iC rfl
  have yf3_8 : w3.frozen? ⟨w.heap.size + 1 + 1, 8, none⟩ = false := box_frozen iC
  have yb3_9 : w3.cell? ⟨w.heap.size + 1 + 1, 9, none⟩ = some (.int .i64 0) := box_cell iC rfl
  have yf3_9 : w3.frozen? ⟨w.heap.size + 1 + 1, 9, none⟩ = false := box_frozen iC
  have yb3_0 : w3.cell? ⟨w.heap.size + 1 + 1, 0, none⟩ = some (.int .i64 x0) := box_cell iC rfl
  have yr3_0 : w3.cell? ⟨w.heap.size + 1, 0, none⟩ = some (.int .i64 0) := box_cell iB rfl
  have yg3_0 : w3.frozen? ⟨w.heap.size + 1, 0, none⟩ = false := box_frozen iB
  have yb3_1 : w3.cell? ⟨w.heap.size + 1 + 1, 1, none⟩ = some (.int .i64 x1) := box_cell iC rfl
  have yr3_1 : w3.cell? ⟨w.heap.size + 1, 1, none⟩ = some (.int .i64 0) := box_cell iB rfl
  have yg3_1 : w3.frozen? ⟨w.heap.size + 1, 1, none⟩ = false := box_frozen iB
  have yb3_2 : w3.cell? ⟨w.heap.size + 1 + 1, 2, none⟩ = some (.int .i64 x2) := box_cell iC rfl
  have yr3_2 : w3.cell? ⟨w.heap.size + 1, 2, none⟩ = some (.int .i64 0) := box_cell iB rfl
  have yg3_2 : w3.frozen? ⟨w.heap.size + 1, 2, none⟩ = false := box_frozen iB
  have yb3_3 : w3.cell? ⟨w.heap.size + 1 + 1, 3, none⟩ = some (.slice g3 m3 k3) := box_cell iC rfl
  have yr3_3 : w3.cell? ⟨w.heap.size + 1, 3, none⟩ = some (.slice none 0 0) := box_cell iB rfl
  have yg3_3 : w3.frozen? ⟨w.heap.size + 1, 3, none⟩ = false := box_frozen iB
  have yb3_4 : w3.cell? ⟨w.heap.size + 1 + 1, 4, none⟩ = some (.slice g4 m4 k4) := box_cell iC rfl
  have yr3_4 : w3.cell? ⟨w.heap.size + 1, 4, none⟩ = some (.slice none 0 0) := box_cell iB rfl
  have yg3_4 : w3.frozen? ⟨w.heap.size + 1, 4, none⟩ = false := box_frozen iB
  have yb3_5 : w3.cell? ⟨w.heap.size + 1 + 1, 5, none⟩ = some (.slice g5 m5 k5) := box_cell iC rfl
  have yr3_5 : w3.cell? ⟨w.heap.size + 1, 5, none⟩ = some (.slice none 0 0) := box_cell iB rfl
  have yg3_5 : w3.frozen? ⟨w.heap.size + 1, 5, none⟩ = false := box_frozen iB
  have yb3_6 : w3.cell? ⟨w.heap.size + 1 + 1, 6, none⟩ = some (.int .i64 x6) := box_cell iC rfl
  have yr3_6 : w3.cell? ⟨w.heap.size + 1, 6, none⟩ = some (.int .i64 0) := box_cell iB rfl
  have yg3_6 : w3.frozen? ⟨w.heap.size + 1, 6, none⟩ = false := box_frozen iB
  have yb3_7 : w3.cell? ⟨w.heap.size + 1 + 1, 7, none⟩ = some (.int .i64 x7) := box_cell iC rfl
  have yr3_7 : w3.cell? ⟨w.heap.size + 1, 7, none⟩ = some (.int .i64 0) := box_cell iB rfl
  have yg3_7 : w3.frozen? ⟨w.heap.size + 1, 7, none⟩ = false := box_frozen iB
  have yr3_8 : w3.cell? ⟨w.heap.size + 1, 8, none⟩ = some (.slice none 0 0) := box_cell iB rfl
  have yg3_8 : w3.frozen? ⟨w.heap.size + 1, 8, none⟩ = false := box_frozen iB
  have yr3_9 : w3.cell? ⟨w.heap.size + 1, 9, none⟩ = some (.int .i64 0) := box_cell iB rfl
  have yg3_9 : w3.frozen? ⟨w.heap.size + 1, 9, none⟩ = false := box_frozen iB
  have L0 := p0_3.lt
  have L3 := o3.lt
  have ND : (F0 ++ (F3 ++ ([]))).Nodup := by
    simp only [List.append_nil, List.nodup_append]
    refine ⟨nd0, nd3, fun x hx y hy e => ?n0⟩
    case n0 =>
      subst e
      have h1 := TOP0 x hx
      have h2 := L3 x hy; omega
  have HO : Hid ((∀ w', (∀ g, w.heap.size + 1 + 1 < g → w'.heap[g]? = w3.heap[g]?) → Own shStore w' w.heap.size [.int .i64 x0, .int .i64 x1, .int .i64 x2, .slice g3 m3 k3, .slice g4 m4 k4, .slice g5 m5 k5, .int .i64 x6, .int .i64 x7, .slice g8 m8 k8, .int .i64 x9] d (F0 ++ (F3 ++ ([])))) ∧ True) := ⟨fun w' hw' => by
    have u0 := (p0_3.keep fun g hg => hw' g (by have := (L0 g hg).1; omega)).base (B' := w.heap.size) (by omega)
    rw [HE.out.1, HE.out.2.1, HE.out.2.2.1] at u0
    have u3 := (o3.keep fun g hg => hw' g (by have := (L3 g hg).1; omega)).base (B' := w.heap.size) (by omega)
    have := own_Store (w := w') (B := w.heap.size) (d := d) u0 u3
    simpa only [← HE.out.1, ← HE.out.2.1, ← HE.out.2.2.1, ← HE.out.2.2.2.1, ← HE.out.2.2.2.2.1, ← HE.out.2.2.2.2.2.1] using this, trivial⟩
  have HB : Hid (Below w.heap.size w w3) := b3
  have HN : Hid ((F0 ++ (F3 ++ ([]))).Nodup) := ND
  clear iA iB iC ND b3 hb3 L0 L3 p0_3 o3
  have yz0 : ((((w3).setCell ⟨w.heap.size + 1 + 1, 8, none⟩ (.slice g8 m8 k8)).setCell ⟨w.heap.size + 1 + 1, 9, none⟩ (.int .i64 x9)).setCell ⟨w.heap.size + 1, 0, none⟩ (.int .i64 x0)).cell? ⟨w.heap.size + 1, 0, none⟩ = some (.int .i64 x0) := World.cell?_setCell_same _ _ _ (by rw [World.cell?_setCell_other _ _ _ _ (by simp), World.cell?_setCell_other _ _ _ _ (by simp)]; exact yr3_0)
  have yz1 : (((((w3).setCell ⟨w.heap.size + 1 + 1, 8, none⟩ (.slice g8 m8 k8)).setCell ⟨w.heap.size + 1 + 1, 9, none⟩ (.int .i64 x9)).setCell ⟨w.heap.size + 1, 0, none⟩ (.int .i64 x0)).setCell ⟨w.heap.size + 1, 1, none⟩ (.int .i64 x1)).cell? ⟨w.heap.size + 1, 1, none⟩ = some (.int .i64 x1) := World.cell?_setCell_same _ _ _ (by rw [World.cell?_setCell_other _ _ _ _ (by simp), World.cell?_setCell_other _ _ _ _ (by simp), World.cell?_setCell_other _ _ _ _ (by simp)]; exact yr3_1)
  have yz2 : ((((((w3).setCell ⟨w.heap.size + 1 + 1, 8, none⟩ (.slice g8 m8 k8)).setCell ⟨w.heap.size + 1 + 1, 9, none⟩ (.int .i64 x9)).setCell ⟨w.heap.size + 1, 0, none⟩ (.int .i64 x0)).setCell ⟨w.heap.size + 1, 1, none⟩ (.int .i64 x1)).setCell ⟨w.heap.size + 1, 2, none⟩ (.int .i64 x2)).cell? ⟨w.heap.size + 1, 2, none⟩ = some (.int .i64 x2) := World.cell?_setCell_same _ _ _ (by rw [World.cell?_setCell_other _ _ _ _ (by simp), World.cell?_setCell_other _ _ _ _ (by simp), World.cell?_setCell_other _ _ _ _ (by simp), World.cell?_setCell_other _ _ _ _ (by simp)]; exact yr3_2)
  have yz3 : (((((((w3).setCell ⟨w.heap.size + 1 + 1, 8, none⟩ (.slice g8 m8 k8)).setCell ⟨w.heap.size + 1 + 1, 9, none⟩ (.int .i64 x9)).setCell ⟨w.heap.size + 1, 0, none⟩ (.int .i64 x0)).setCell ⟨w.heap.size + 1, 1, none⟩ (.int .i64 x1)).setCell ⟨w.heap.size + 1, 2, none⟩ (.int .i64 x2)).setCell ⟨w.heap.size + 1, 3, none⟩ (.slice g3 m3 k3)).cell? ⟨w.heap.size + 1, 3, none⟩ = some (.slice g3 m3 k3) := World.cell?_setCell_same _ _ _ (by rw [World.cell?_setCell_other _ _ _ _ (by simp), World.cell?_setCell_other _ _ _ _ (by simp), World.cell?_setCell_other _ _ _ _ (by simp), World.cell?_setCell_other _ _ _ _ (by simp), World.cell?_setCell_other _ _ _ _ (by simp)]; exact yr3_3)
  have yz4 : ((((((((w3).setCell ⟨w.heap.size + 1 + 1, 8, none⟩ (.slice g8 m8 k8)).setCell ⟨w.heap.size + 1 + 1, 9, none⟩ (.int .i64 x9)).setCell ⟨w.heap.size + 1, 0, none⟩ (.int .i64 x0)).setCell ⟨w.heap.size + 1, 1, none⟩ (.int .i64 x1)).setCell ⟨w.heap.size + 1, 2, none⟩ (.int .i64 x2)).setCell ⟨w.heap.size + 1, 3, none⟩ (.slice g3 m3 k3)).setCell ⟨w.heap.size + 1, 4, none⟩ (.slice g4 m4 k4)).cell? ⟨w.heap.size + 1, 4, none⟩ = some (.slice g4 m4 k4) := World.cell?_setCell_same _ _ _ (by rw [World.cell?_setCell_other _ _ _ _ (by simp), World.cell?_setCell_other _ _ _ _ (by simp), World.cell?_setCell_other _ _ _ _ (by simp), World.cell?_setCell_other _ _ _ _ (by simp), World.cell?_setCell_other _ _ _ _ (by simp), World.cell?_setCell_other _ _ _ _ (by simp)]; exact yr3_4)
  have yz5 : (((((((((w3).setCell ⟨w.heap.size + 1 + 1, 8, none⟩ (.slice g8 m8 k8)).setCell ⟨w.heap.size + 1 + 1, 9, none⟩ (.int .i64 x9)).setCell ⟨w.heap.size + 1, 0, none⟩ (.int .i64 x0)).setCell ⟨w.heap.size + 1, 1, none⟩ (.int .i64 x1)).setCell ⟨w.heap.size + 1, 2, none⟩ (.int .i64 x2)).setCell ⟨w.heap.size + 1, 3, none⟩ (.slice g3 m3 k3)).setCell ⟨w.heap.size + 1, 4, none⟩ (.slice g4 m4 k4)).setCell ⟨w.heap.size + 1, 5, none⟩ (.slice g5 m5 k5)).cell? ⟨w.heap.size + 1, 5, none⟩ = some (.slice g5 m5 k5) := World.cell?_setCell_same _ _ _ (by rw [World.cell?_setCell_other _ _ _ _ (by simp), World.cell?_setCell_other _ _ _ _ (by simp), World.cell?_setCell_other _ _ _ _ (by simp), World.cell?_setCell_other _ _ _ _ (by simp), World.cell?_setCell_other _ _ _ _ (by simp), World.cell?_setCell_other _ _ _ _ (by simp), World.cell?_setCell_other _ _ _ _ (by simp)]; exact yr3_5)
  have yz6 : ((((((((((w3).setCell ⟨w.heap.size + 1 + 1, 8, none⟩ (.slice g8 m8 k8)).setCell ⟨w.heap.size + 1 + 1, 9, none⟩ (.int .i64 x9)).setCell ⟨w.heap.size + 1, 0, none⟩ (.int .i64 x0)).setCell ⟨w.heap.size + 1, 1, none⟩ (.int .i64 x1)).setCell ⟨w.heap.size + 1, 2, none⟩ (.int .i64 x2)).setCell ⟨w.heap.size + 1, 3, none⟩ (.slice g3 m3 k3)).setCell ⟨w.heap.size + 1, 4, none⟩ (.slice g4 m4 k4)).setCell ⟨w.heap.size + 1, 5, none⟩ (.slice g5 m5 k5)).setCell ⟨w.heap.size + 1, 6, none⟩ (.int .i64 x6)).cell? ⟨w.heap.size + 1, 6, none⟩ = some (.int .i64 x6) := World.cell?_setCell_same _ _ _ (by rw [World.cell?_setCell_other _ _ _ _ (by simp), World.cell?_setCell_other _ _ _ _ (by simp), World.cell?_setCell_other _ _ _ _ (by simp), World.cell?_setCell_other _ _ _ _ (by simp), World.cell?_setCell_other _ _ _ _ (by simp), World.cell?_setCell_other _ _ _ _ (by simp), World.cell?_setCell_other _ _ _ _ (by simp), World.cell?_setCell_other _ _ _ _ (by simp)]; exact yr3_6)
  have yz7 : (((((((((((w3).setCell ⟨w.heap.size + 1 + 1, 8, none⟩ (.slice g8 m8 k8)).setCell ⟨w.heap.size + 1 + 1, 9, none⟩ (.int .i64 x9)).setCell ⟨w.heap.size + 1, 0, none⟩ (.int .i64 x0)).setCell ⟨w.heap.size + 1, 1, none⟩ (.int .i64 x1)).setCell ⟨w.heap.size + 1, 2, none⟩ (.int .i64 x2)).setCell ⟨w.heap.size + 1, 3, none⟩ (.slice g3 m3 k3)).setCell ⟨w.heap.size + 1, 4, none⟩ (.slice g4 m4 k4)).setCell ⟨w.heap.size + 1, 5, none⟩ (.slice g5 m5 k5)).setCell ⟨w.heap.size + 1, 6, none⟩ (.int .i64 x6)).setCell ⟨w.heap.size + 1, 7, none⟩ (.int .i64 x7)).cell? ⟨w.heap.size + 1, 7, none⟩ = some (.int .i64 x7) := World.cell?_setCell_same _ _ _ (by rw [World.cell?_setCell_other _ _ _ _ (by simp), World.cell?_setCell_other _ _ _ _ (by simp), World.cell?_setCell_other _ _ _ _ (by simp), World.cell?_setCell_other _ _ _ _ (by simp), World.cell?_setCell_other _ _ _ _ (by simp), World.cell?_setCell_other _ _ _ _ (by simp), World.cell?_setCell_other _ _ _ _ (by simp), World.cell?_setCell_other _ _ _ _ (by simp), World.cell?_setCell_other _ _ _ _ (by simp)]; exact yr3_7)
  have yz8 : ((((((((((((w3).setCell ⟨w.heap.size + 1 + 1, 8, none⟩ (.slice g8 m8 k8)).setCell ⟨w.heap.size + 1 + 1, 9, none⟩ (.int .i64 x9)).setCell ⟨w.heap.size + 1, 0, none⟩ (.int .i64 x0)).setCell ⟨w.heap.size + 1, 1, none⟩ (.int .i64 x1)).setCell ⟨w.heap.size + 1, 2, none⟩ (.int .i64 x2)).setCell ⟨w.heap.size + 1, 3, none⟩ (.slice g3 m3 k3)).setCell ⟨w.heap.size + 1, 4, none⟩ (.slice g4 m4 k4)).setCell ⟨w.heap.size + 1, 5, none⟩ (.slice g5 m5 k5)).setCell ⟨w.heap.size + 1, 6, none⟩ (.int .i64 x6)).setCell ⟨w.heap.size + 1, 7, none⟩ (.int .i64 x7)).setCell ⟨w.heap.size + 1, 8, none⟩ (.slice g8 m8 k8)).cell? ⟨w.heap.size + 1, 8, none⟩ = some (.slice g8 m8 k8) := World.cell?_setCell_same _ _ _ (by rw [World.cell?_setCell_other _ _ _ _ (by simp), World.cell?_setCell_other _ _ _ _ (by simp), World.cell?_setCell_other _ _ _ _ (by simp), World.cell?_setCell_other _ _ _ _ (by simp), World.cell?_setCell_other _ _ _ _ (by simp), World.cell?_setCell_other _ _ _ _ (by simp), World.cell?_setCell_other _ _ _ _ (by simp), World.cell?_setCell_other _ _ _ _ (by simp), World.cell?_setCell_other _ _ _ _ (by simp), World.cell?_setCell_other _ _ _ _ (by simp)]; exact yr3_8)
  have yz9 : (((((((((((((w3).setCell ⟨w.heap.size + 1 + 1, 8, none⟩ (.slice g8 m8 k8)).setCell ⟨w.heap.size + 1 + 1, 9, none⟩ (.int .i64 x9)).setCell ⟨w.heap.size + 1, 0, none⟩ (.int .i64 x0)).setCell ⟨w.heap.size + 1, 1, none⟩ (.int .i64 x1)).setCell ⟨w.heap.size + 1, 2, none⟩ (.int .i64 x2)).setCell ⟨w.heap.size + 1, 3, none⟩ (.slice g3 m3 k3)).setCell ⟨w.heap.size + 1, 4, none⟩ (.slice g4 m4 k4)).setCell ⟨w.heap.size + 1, 5, none⟩ (.slice g5 m5 k5)).setCell ⟨w.heap.size + 1, 6, none⟩ (.int .i64 x6)).setCell ⟨w.heap.size + 1, 7, none⟩ (.int .i64 x7)).setCell ⟨w.heap.size + 1, 8, none⟩ (.slice g8 m8 k8)).setCell ⟨w.heap.size + 1, 9, none⟩ (.int .i64 x9)).cell? ⟨w.heap.size + 1, 9, none⟩ = some (.int .i64 x9) := World.cell?_setCell_same _ _ _ (by rw [World.cell?_setCell_other _ _ _ _ (by simp), World.cell?_setCell_other _ _ _ _ (by simp), World.cell?_setCell_other _ _ _ _ (by simp), World.cell?_setCell_other _ _ _ _ (by simp), World.cell?_setCell_other _ _ _ _ (by simp), World.cell?_setCell_other _ _ _ _ (by simp), World.cell?_setCell_other _ _ _ _ (by simp), World.cell?_setCell_other _ _ _ _ (by simp), World.cell?_setCell_other _ _ _ _ (by simp), World.cell?_setCell_other _ _ _ _ (by simp), World.cell?_setCell_other _ _ _ _ (by simp)]; exact yr3_9)
  go_wp2
  (try simp only [Exit.inBlock, Exit.then])
  refine bodyPost_ret (by simp [results, Try.results31, go_sem, yz0, yz1, yz2, yz3, yz4, yz5, yz6, yz7, yz8, yz9]; try rfl) rfl ?_
  refine ⟨_, _, rfl, HO.out.1 _ (fun g hg => ((box_other _ (by omega)).trans ((box_other _ (by omega)).trans ((box_other _ (by omega)).trans ((box_other _ (by omega)).trans ((box_other _ (by omega)).trans ((box_other _ (by omega)).trans ((box_other _ (by omega)).trans ((box_other _ (by omega)).trans ((box_other _ (by omega)).trans ((box_other _ (by omega)).trans ((box_other _ (by omega)).trans (box_other _ (by omega)))))))))))))), HN.out, ?_⟩
  exact ((((((((((((HB.out.setCell (by simp <;> omega) _).setCell (by simp <;> omega) _).setCell (by simp <;> omega) _).setCell (by simp <;> omega) _).setCell (by simp <;> omega) _).setCell (by simp <;> omega) _).setCell (by simp <;> omega) _).setCell (by simp <;> omega) _).setCell (by simp <;> omega) _).setCell (by simp <;> omega) _).setCell (by simp <;> omega) _).setCell (by simp <;> omega) _)

set_option maxRecDepth 100000 in
set_option maxHeartbeats 4000000 in
theorem eqStore_any (cs1 cs2 : List Value) (d : shStore.D) (w : World) (hr : Reads shStore w cs1 d) (hq : Reads shStore w cs2 d) (hs : shStore.sz d ≤ 1048576) :
    Calls Try.prog 18 #[.agg cs1.toArray, .agg cs2.toArray] w fun e w' => e = .returned (.bool true) ∧ Below w.heap.size w w' := by
  obtain ⟨a3, n3, c3, a4, n4, c4, a5, n5, c5, a8, n8, c8, rfl, r0, r3⟩ := open_Store hr
  obtain ⟨p3, m3, k3, p4, m4, k4, p5, m5, k5, p8, m8, k8, rfl, t0, t3⟩ := open_Store hq
  obtain ⟨x0, e0⟩ : ∃ x : Int, x = d.1.1 := ⟨_, rfl⟩
  obtain ⟨x1, e1⟩ : ∃ x : Int, x = d.1.2.1 := ⟨_, rfl⟩
  obtain ⟨x2, e2⟩ : ∃ x : Int, x = d.1.2.2.1 := ⟨_, rfl⟩
  obtain ⟨x6, e6⟩ : ∃ x : Int, x = d.2.1 := ⟨_, rfl⟩
  obtain ⟨x7, e7⟩ : ∃ x : Int, x = d.2.2.1 := ⟨_, rfl⟩
  obtain ⟨x9, e9⟩ : ∃ x : Int, x = d.2.2.2.2.1 := ⟨_, rfl⟩
  rw [sz_Store] at hs
  have q0 : Hid (∀ w', Below w.heap.size w w' → Calls Try.prog 19 #[.agg #[.int .i64 x0, .int .i64 x1, .int .i64 x2, .slice a3 n3 c3, .slice a4 n4 c4, .slice a5 n5 c5], .agg #[.int .i64 x0, .int .i64 x1, .int .i64 x2, .slice p3 m3 k3, .slice p4 m4 k4, .slice p5 m5 k5]] w' fun e w'' => e = .returned (.bool true) ∧ Below w'.heap.size w' w'') := fun w' h' => by rw [e0, e1, e2]; exact eqDisk_any _ _ _ w' (r0.later h') (t0.later h') (by show Sh.sz shDisk _ ≤ _; omega)
  obtain rfl : n8 = m8 := (reads_len r3).1.symm.trans (reads_len t3).1
  have q3 : Hid (∀ w', Below w.heap.size w w' → Calls Try.prog 20 #[.slice a8 n8 c8, .slice p8 n8 k8] w' fun e w'' => e = .returned (.bool true) ∧ Below w'.heap.size w' w'') := fun w' h' => eqEntryS_reads a8 p8 n8 c8 k8 _ w' (r3.later h') (t3.later h') (by omega)
  rw [← e0, ← e1, ← e2, ← e6, ← e7, ← e9]
  have ne6 : (x6 != x6) = false := by simp
  have ne7 : (x7 != x7) = false := by simp
  have ne9 : (x9 != x9) = false := by simp
  clear hr hq hs r0 t0 r3 t3 e0 e1 e2 e6 e7 e9
  obtain ⟨W0, hW0⟩ : ∃ W0, W0 = (w.alloc (.cells #[.int .i64 x0, .int .i64 x1, .int .i64 x2, .slice a3 n3 c3, .slice a4 n4 c4, .slice a5 n5 c5, .int .i64 x6, .int .i64 x7, .slice a8 n8 c8, .int .i64 x9] 29)).alloc (.cells #[.int .i64 x0, .int .i64 x1, .int .i64 x2, .slice p3 m3 k3, .slice p4 m4 k4, .slice p5 m5 k5, .int .i64 x6, .int .i64 x7, .slice p8 n8 k8, .int .i64 x9] 29) := ⟨_, rfl⟩
  have bW0 : Below w.heap.size w W0 := by rw [hW0]; exact ((Below.refl _ _).alloc (Nat.le_refl _) _).alloc (by simp) _
  have hA : W0.heap[w.heap.size]? = some (.cells #[.int .i64 x0, .int .i64 x1, .int .i64 x2, .slice a3 n3 c3, .slice a4 n4 c4, .slice a5 n5 c5, .int .i64 x6, .int .i64 x7, .slice a8 n8 c8, .int .i64 x9] 29 (0, 0)) := by rw [hW0, heap_alloc_old _ _ (by simp)]; exact heap_alloc_new w _
  have hB : W0.heap[w.heap.size + 1]? = some (.cells #[.int .i64 x0, .int .i64 x1, .int .i64 x2, .slice p3 m3 k3, .slice p4 m4 k4, .slice p5 m5 k5, .int .i64 x6, .int .i64 x7, .slice p8 n8 k8, .int .i64 x9] 29 (0, 0)) := by rw [hW0]; exact (by have := heap_alloc_new (w.alloc (.cells #[.int .i64 x0, .int .i64 x1, .int .i64 x2, .slice a3 n3 c3, .slice a4 n4 c4, .slice a5 n5 c5, .int .i64 x6, .int .i64 x7, .slice a8 n8 c8, .int .i64 x9] 29)) (.cells #[.int .i64 x0, .int .i64 x1, .int .i64 x2, .slice p3 m3 k3, .slice p4 m4 k4, .slice p5 m5 k5, .int .i64 x6, .int .i64 x7, .slice p8 n8 k8, .int .i64 x9] 29); simpa using this)
  have zW0 : W0.heap.size = w.heap.size + 1 + 1 := by rw [hW0]; simp
  have HW0 : Hid (W0 = _) := hW0
  have HAB : Hid (_ ∧ _) := ⟨hA, hB⟩
  clear hW0 hA hB
  go_enter Try.func18, Try.ntmps18
  go_wp2_with fail
  rw [← HW0.out]
  refine (q0.out _ bW0).mono ?_
  rintro e w0 ⟨rfl, hb0⟩
  have b0 := bW0.trans (hb0.mono bW0.size)
  have z0 := hb0.size
  have iA : w0.heap[w.heap.size]? = some (.cells #[.int .i64 x0, .int .i64 x1, .int .i64 x2, .slice a3 n3 c3, .slice a4 n4 c4, .slice a5 n5 c5, .int .i64 x6, .int .i64 x7, .slice a8 n8 c8, .int .i64 x9] 29 (0, 0)) := (hb0.block _ (by omega)).trans HAB.out.1
  have iB : w0.heap[w.heap.size + 1]? = some (.cells #[.int .i64 x0, .int .i64 x1, .int .i64 x2, .slice p3 m3 k3, .slice p4 m4 k4, .slice p5 m5 k5, .int .i64 x6, .int .i64 x7, .slice p8 n8 k8, .int .i64 x9] 29 (0, 0)) := (hb0.block _ (by omega)).trans HAB.out.2
  have ya0_6 : w0.cell? ⟨w.heap.size, 6, none⟩ = some (.int .i64 x6) := box_cell iA rfl
  have yb0_6 : w0.cell? ⟨w.heap.size + 1, 6, none⟩ = some (.int .i64 x6) := box_cell iB rfl
  have ya0_7 : w0.cell? ⟨w.heap.size, 7, none⟩ = some (.int .i64 x7) := box_cell iA rfl
  have yb0_7 : w0.cell? ⟨w.heap.size + 1, 7, none⟩ = some (.int .i64 x7) := box_cell iB rfl
  have ya0_8 : w0.cell? ⟨w.heap.size, 8, none⟩ = some (.slice a8 n8 c8) := box_cell iA rfl
  have yb0_8 : w0.cell? ⟨w.heap.size + 1, 8, none⟩ = some (.slice p8 n8 k8) := box_cell iB rfl
  have ya0_9 : w0.cell? ⟨w.heap.size, 9, none⟩ = some (.int .i64 x9) := box_cell iA rfl
  have yb0_9 : w0.cell? ⟨w.heap.size + 1, 9, none⟩ = some (.int .i64 x9) := box_cell iB rfl
  have I0 : Hid (_ ∧ _) := ⟨iA, iB⟩
  clear iA iB hb0
  go_wp2_with fail
  refine (q3.out _ b0).mono ?_
  rintro e w3 ⟨rfl, hb3⟩
  have b3 := b0.trans (hb3.mono b0.size)
  have z3 := hb3.size
  have iA : w3.heap[w.heap.size]? = some (.cells #[.int .i64 x0, .int .i64 x1, .int .i64 x2, .slice a3 n3 c3, .slice a4 n4 c4, .slice a5 n5 c5, .int .i64 x6, .int .i64 x7, .slice a8 n8 c8, .int .i64 x9] 29 (0, 0)) := (hb3.block _ (by omega)).trans I0.out.1
  have iB : w3.heap[w.heap.size + 1]? = some (.cells #[.int .i64 x0, .int .i64 x1, .int .i64 x2, .slice p3 m3 k3, .slice p4 m4 k4, .slice p5 m5 k5, .int .i64 x6, .int .i64 x7, .slice p8 n8 k8, .int .i64 x9] 29 (0, 0)) := (hb3.block _ (by omega)).trans I0.out.2
  have ya3_9 : w3.cell? ⟨w.heap.size, 9, none⟩ = some (.int .i64 x9) := box_cell iA rfl
  have yb3_9 : w3.cell? ⟨w.heap.size + 1, 9, none⟩ = some (.int .i64 x9) := box_cell iB rfl
  have I3 : Hid (_ ∧ _) := ⟨iA, iB⟩
  clear iA iB hb3
  go_wp2
  go_ret
  exact ⟨rfl, b3⟩

end Go.Proofs.Ytdmgknmlgipnpaa
