/-
  The type Trial of the laws, which has structs among its fields: its shape, and what szTrial, toTrial, eqTrial do. By program (tygen2.py).
-/
import Derived.Test.YtdmgknmlgipnpaaTyBase
import Derived.Handy
import Derived.Deep.RegionHeld3
import Derived.Test.YtdmgknmlgipnpaaTyDisk
import Derived.Test.YtdmgknmlgipnpaaTyEntry
import Derived.Test.YtdmgknmlgipnpaaTyStore
namespace Go.Proofs.Ytdmgknmlgipnpaa
open Go.RowKit
set_option linter.unusedVariables false

def shTrial : Sh := Sh.ofL [.bool, .int, .int, shStore, shDisk, (.sl shEntry), (.sl shEntry)]

theorem open_Trial {w : World} {cs : List Value} {d : shTrial.D} (h : Reads shTrial w cs d) :
    ∃ a6 n6 c6 a7 n7 c7 a8 n8 c8 a11 n11 c11 a16 n16 c16 a17 n17 c17 a18 n18 c18 a19 n19 c19 a20 n20 c20, cs = [.bool (d.1), .int .i64 (d.2.1), .int .i64 (d.2.2.1), .int .i64 (d.2.2.2.1.1.1), .int .i64 (d.2.2.2.1.1.2.1), .int .i64 (d.2.2.2.1.1.2.2.1), .slice a6 n6 c6, .slice a7 n7 c7, .slice a8 n8 c8, .int .i64 (d.2.2.2.1.2.1), .int .i64 (d.2.2.2.1.2.2.1), .slice a11 n11 c11, .int .i64 (d.2.2.2.1.2.2.2.2.1), .int .i64 (d.2.2.2.2.1.1), .int .i64 (d.2.2.2.2.1.2.1), .int .i64 (d.2.2.2.2.1.2.2.1), .slice a16 n16 c16, .slice a17 n17 c17, .slice a18 n18 c18, .slice a19 n19 c19, .slice a20 n20 c20] ∧ Reads shStore w [.int .i64 (d.2.2.2.1.1.1), .int .i64 (d.2.2.2.1.1.2.1), .int .i64 (d.2.2.2.1.1.2.2.1), .slice a6 n6 c6, .slice a7 n7 c7, .slice a8 n8 c8, .int .i64 (d.2.2.2.1.2.1), .int .i64 (d.2.2.2.1.2.2.1), .slice a11 n11 c11, .int .i64 (d.2.2.2.1.2.2.2.2.1)] d.2.2.2.1 ∧ Reads shDisk w [.int .i64 (d.2.2.2.2.1.1), .int .i64 (d.2.2.2.2.1.2.1), .int .i64 (d.2.2.2.2.1.2.2.1), .slice a16 n16 c16, .slice a17 n17 c17, .slice a18 n18 c18] d.2.2.2.2.1 ∧ Reads (.sl shEntry) w [.slice a19 n19 c19] d.2.2.2.2.2.1 ∧ Reads (.sl shEntry) w [.slice a20 n20 c20] d.2.2.2.2.2.2.1 := by
  obtain ⟨_, _, rfl, h0, _, _, rfl, h1, _, _, rfl, h2, _, _, rfl, h3, _, _, rfl, h4, _, _, rfl, h5, _, _, rfl, h6, hE⟩ := h
  have e0 : _ = _ := h0
  have e1 : _ = _ := h1
  have e2 : _ = _ := h2
  have g3 := h3
  obtain ⟨a6, n6, c6, a7, n7, c7, a8, n8, c8, a11, n11, c11, e3, _⟩ := open_Store g3
  have g4 := h4
  obtain ⟨a16, n16, c16, a17, n17, c17, a18, n18, c18, e4, _⟩ := open_Disk g4
  have g5 := h5
  obtain ⟨a19, c19, e5, _⟩ := g5
  have g6 := h6
  obtain ⟨a20, c20, e6, _⟩ := g6
  have eE : _ = _ := hE
  subst e0 e1 e2 e3 e4 e5 e6 eE
  exact ⟨a6, n6, c6, a7, n7, c7, a8, n8, c8, a11, n11, c11, a16, n16, c16, a17, n17, c17, a18, n18, c18, a19, _, c19, a20, _, c20, rfl, h3, h4, h5, h6⟩

theorem own_Trial {w : World} {B : Nat} {d : shTrial.D} {v6 : Value} {v7 : Value} {v8 : Value} {v11 : Value} {F3 : List Nat} {v16 : Value} {v17 : Value} {v18 : Value} {F4 : List Nat} {v19 : Value} {F5 : List Nat} {v20 : Value} {F6 : List Nat} (o3 : Own shStore w B [.int .i64 (d.2.2.2.1.1.1), .int .i64 (d.2.2.2.1.1.2.1), .int .i64 (d.2.2.2.1.1.2.2.1), v6, v7, v8, .int .i64 (d.2.2.2.1.2.1), .int .i64 (d.2.2.2.1.2.2.1), v11, .int .i64 (d.2.2.2.1.2.2.2.2.1)] d.2.2.2.1 F3) (o4 : Own shDisk w B [.int .i64 (d.2.2.2.2.1.1), .int .i64 (d.2.2.2.2.1.2.1), .int .i64 (d.2.2.2.2.1.2.2.1), v16, v17, v18] d.2.2.2.2.1 F4) (o5 : Own (.sl shEntry) w B [v19] d.2.2.2.2.2.1 F5) (o6 : Own (.sl shEntry) w B [v20] d.2.2.2.2.2.2.1 F6) :
    Own shTrial w B [.bool (d.1), .int .i64 (d.2.1), .int .i64 (d.2.2.1), .int .i64 (d.2.2.2.1.1.1), .int .i64 (d.2.2.2.1.1.2.1), .int .i64 (d.2.2.2.1.1.2.2.1), v6, v7, v8, .int .i64 (d.2.2.2.1.2.1), .int .i64 (d.2.2.2.1.2.2.1), v11, .int .i64 (d.2.2.2.1.2.2.2.2.1), .int .i64 (d.2.2.2.2.1.1), .int .i64 (d.2.2.2.2.1.2.1), .int .i64 (d.2.2.2.2.1.2.2.1), v16, v17, v18, v19, v20] d (F3 ++ (F4 ++ (F5 ++ (F6 ++ ([]))))) := by
  exact ⟨[_], _, [], F3 ++ (F4 ++ (F5 ++ (F6 ++ ([])))), rfl, rfl, ⟨rfl, rfl⟩, ⟨[_], _, [], F3 ++ (F4 ++ (F5 ++ (F6 ++ ([])))), rfl, rfl, ⟨rfl, rfl⟩, ⟨[_], _, [], F3 ++ (F4 ++ (F5 ++ (F6 ++ ([])))), rfl, rfl, ⟨rfl, rfl⟩, ⟨[_, _, _, _, _, _, _, _, _, _], _, F3, F4 ++ (F5 ++ (F6 ++ ([]))), rfl, rfl, o3, ⟨[_, _, _, _, _, _], _, F4, F5 ++ (F6 ++ ([])), rfl, rfl, o4, ⟨[_], _, F5, F6 ++ ([]), rfl, rfl, o5, ⟨[_], _, F6, [], rfl, rfl, o6, ⟨rfl, rfl⟩⟩⟩⟩⟩⟩⟩⟩

theorem size_Trial : shTrial.size = 21 := rfl

theorem sz_Trial (d : shTrial.D) : shTrial.sz d = Sh.sz shStore d.2.2.2.1 + Sh.sz shDisk d.2.2.2.2.1 + Sh.sz (.sl shEntry) d.2.2.2.2.2.1 + Sh.sz (.sl shEntry) d.2.2.2.2.2.2.1 := by
  show 0 + (0 + (0 + (Sh.sz shStore d.2.2.2.1 + (Sh.sz shDisk d.2.2.2.2.1 + (Sh.sz (.sl shEntry) d.2.2.2.2.2.1 + (Sh.sz (.sl shEntry) d.2.2.2.2.2.2.1 + (0))))))) = _
  omega

set_option maxHeartbeats 2000000 in
theorem szTrial_any (cs : List Value) (d : shTrial.D) (left : Int) (w : World) (hr : Reads shTrial w cs d) (h0 : 0 ≤ left) (h1 : left ≤ 1048576) :
    Calls Try.prog 10 #[.agg cs.toArray, .int .i64 left] w fun e w' => e = .returned (.int .i64 (szAns (shTrial.sz d) left)) ∧ Below w.heap.size w w' := by
  obtain ⟨a6, n6, c6, a7, n7, c7, a8, n8, c8, a11, n11, c11, a16, n16, c16, a17, n17, c17, a18, n18, c18, a19, n19, c19, a20, n20, c20, rfl, r3, r4, r5, r6⟩ := open_Trial hr
  obtain ⟨x0, e0⟩ : ∃ x : Bool, x = d.1 := ⟨_, rfl⟩
  obtain ⟨x1, e1⟩ : ∃ x : Int, x = d.2.1 := ⟨_, rfl⟩
  obtain ⟨x2, e2⟩ : ∃ x : Int, x = d.2.2.1 := ⟨_, rfl⟩
  obtain ⟨x3, e3⟩ : ∃ x : Int, x = d.2.2.2.1.1.1 := ⟨_, rfl⟩
  obtain ⟨x4, e4⟩ : ∃ x : Int, x = d.2.2.2.1.1.2.1 := ⟨_, rfl⟩
  obtain ⟨x5, e5⟩ : ∃ x : Int, x = d.2.2.2.1.1.2.2.1 := ⟨_, rfl⟩
  obtain ⟨x9, e9⟩ : ∃ x : Int, x = d.2.2.2.1.2.1 := ⟨_, rfl⟩
  obtain ⟨x10, e10⟩ : ∃ x : Int, x = d.2.2.2.1.2.2.1 := ⟨_, rfl⟩
  obtain ⟨x12, e12⟩ : ∃ x : Int, x = d.2.2.2.1.2.2.2.2.1 := ⟨_, rfl⟩
  obtain ⟨x13, e13⟩ : ∃ x : Int, x = d.2.2.2.2.1.1 := ⟨_, rfl⟩
  obtain ⟨x14, e14⟩ : ∃ x : Int, x = d.2.2.2.2.1.2.1 := ⟨_, rfl⟩
  obtain ⟨x15, e15⟩ : ∃ x : Int, x = d.2.2.2.2.1.2.2.1 := ⟨_, rfl⟩
  rw [sz_Trial]
  obtain ⟨k3, hk3⟩ : ∃ k, k = Sh.sz shStore d.2.2.2.1 := ⟨_, rfl⟩
  have q3 : Hid (∀ w', Below w.heap.size w w' → ∀ l : Int, 0 ≤ l → l ≤ 1048576 → Calls Try.prog 27 #[.agg #[.int .i64 x3, .int .i64 x4, .int .i64 x5, .slice a6 n6 c6, .slice a7 n7 c7, .slice a8 n8 c8, .int .i64 x9, .int .i64 x10, .slice a11 n11 c11, .int .i64 x12], .int .i64 l] w' fun e w'' => e = .returned (.int .i64 (szAns k3 l)) ∧ Below w'.heap.size w' w'') := fun w' hb l l0 l1 => by rw [hk3, e3, e4, e5, e9, e10, e12]; exact szStore_any _ _ l w' (r3.later hb) l0 l1
  obtain ⟨k4, hk4⟩ : ∃ k, k = Sh.sz shDisk d.2.2.2.2.1 := ⟨_, rfl⟩
  have q4 : Hid (∀ w', Below w.heap.size w w' → ∀ l : Int, 0 ≤ l → l ≤ 1048576 → Calls Try.prog 28 #[.agg #[.int .i64 x13, .int .i64 x14, .int .i64 x15, .slice a16 n16 c16, .slice a17 n17 c17, .slice a18 n18 c18], .int .i64 l] w' fun e w'' => e = .returned (.int .i64 (szAns k4 l)) ∧ Below w'.heap.size w' w'') := fun w' hb l l0 l1 => by rw [hk4, e13, e14, e15]; exact szDisk_any _ _ l w' (r4.later hb) l0 l1
  obtain ⟨k5, hk5⟩ : ∃ k, k = Sh.sz (.sl shEntry) d.2.2.2.2.2.1 := ⟨_, rfl⟩
  have q5 : Hid (∀ w', Below w.heap.size w w' → ∀ l : Int, 0 ≤ l → l ≤ 1048576 → Calls Try.prog 29 #[.slice a19 n19 c19, .int .i64 l] w' fun e w'' => e = .returned (.int .i64 (szAns k5 l)) ∧ Below w'.heap.size w' w'') := fun w' hb l l0 l1 => by rw [hk5]; exact szEntryS_any a19 n19 c19 _ l w' (r5.later hb) l0 l1
  obtain ⟨k6, hk6⟩ : ∃ k, k = Sh.sz (.sl shEntry) d.2.2.2.2.2.2.1 := ⟨_, rfl⟩
  have q6 : Hid (∀ w', Below w.heap.size w w' → ∀ l : Int, 0 ≤ l → l ≤ 1048576 → Calls Try.prog 29 #[.slice a20 n20 c20, .int .i64 l] w' fun e w'' => e = .returned (.int .i64 (szAns k6 l)) ∧ Below w'.heap.size w' w'') := fun w' hb l l0 l1 => by rw [hk6]; exact szEntryS_any a20 n20 c20 _ l w' (r6.later hb) l0 l1
  rw [← hk3, ← hk4, ← hk5, ← hk6]
  rw [← e0, ← e1, ← e2, ← e3, ← e4, ← e5, ← e9, ← e10, ← e12, ← e13, ← e14, ← e15]
  clear hr r3 hk3 r4 hk4 r5 hk5 r6 hk6 e0 e1 e2 e3 e4 e5 e9 e10 e12 e13 e14 e15
  obtain ⟨W0, hW0⟩ : ∃ W0, W0 = w.alloc (.cells #[.bool x0, .int .i64 x1, .int .i64 x2, .int .i64 x3, .int .i64 x4, .int .i64 x5, .slice a6 n6 c6, .slice a7 n7 c7, .slice a8 n8 c8, .int .i64 x9, .int .i64 x10, .slice a11 n11 c11, .int .i64 x12, .int .i64 x13, .int .i64 x14, .int .i64 x15, .slice a16 n16 c16, .slice a17 n17 c17, .slice a18 n18 c18, .slice a19 n19 c19, .slice a20 n20 c20] 46) := ⟨_, rfl⟩
  have bW0 : Below w.heap.size w W0 := by rw [hW0]; exact (Below.refl _ _).alloc (Nat.le_refl _) _
  have hbox : W0.heap[w.heap.size]? = some (.cells #[.bool x0, .int .i64 x1, .int .i64 x2, .int .i64 x3, .int .i64 x4, .int .i64 x5, .slice a6 n6 c6, .slice a7 n7 c7, .slice a8 n8 c8, .int .i64 x9, .int .i64 x10, .slice a11 n11 c11, .int .i64 x12, .int .i64 x13, .int .i64 x14, .int .i64 x15, .slice a16 n16 c16, .slice a17 n17 c17, .slice a18 n18 c18, .slice a19 n19 c19, .slice a20 n20 c20] 46 (0, 0)) := by rw [hW0]; exact heap_alloc_new w _
  have zW0 : W0.heap.size = w.heap.size + 1 := by rw [hW0]; simp
  have HW0 : Hid (W0 = _) := hW0
  have HBX : Hid _ := hbox
  clear hW0 hbox
  go_enter Try.func10, Try.ntmps10
  go_wp2_with fail
  rw [← HW0.out]
  refine (q3.out _ bW0 (left) (by omega) (by omega)).mono ?_
  rintro e w3 ⟨rfl, hb3⟩
  have b3 := bW0.trans (hb3.mono bW0.size)
  have i3 : w3.heap[w.heap.size]? = _ := (hb3.block _ (by rw [zW0]; omega)).trans HBX.out
  have z3 := hb3.size
  rw [zW0] at z3
  have y3_13 : w3.cell? ⟨w.heap.size, 13, none⟩ = some (.int .i64 x13) := box_cell i3 rfl
  have y3_14 : w3.cell? ⟨w.heap.size, 14, none⟩ = some (.int .i64 x14) := box_cell i3 rfl
  have y3_15 : w3.cell? ⟨w.heap.size, 15, none⟩ = some (.int .i64 x15) := box_cell i3 rfl
  have y3_16 : w3.cell? ⟨w.heap.size, 16, none⟩ = some (.slice a16 n16 c16) := box_cell i3 rfl
  have y3_17 : w3.cell? ⟨w.heap.size, 17, none⟩ = some (.slice a17 n17 c17) := box_cell i3 rfl
  have y3_18 : w3.cell? ⟨w.heap.size, 18, none⟩ = some (.slice a18 n18 c18) := box_cell i3 rfl
  have y3_19 : w3.cell? ⟨w.heap.size, 19, none⟩ = some (.slice a19 n19 c19) := box_cell i3 rfl
  have y3_20 : w3.cell? ⟨w.heap.size, 20, none⟩ = some (.slice a20 n20 c20) := box_cell i3 rfl
  have I3 : Hid _ := i3
  clear i3 hb3
  by_cases t3 : (k3 : Int) ≤ left
  rotate_left
  · rw [szAns_no t3]
    have E : Hid (szAns (k3 + k4 + k5 + k6) left = -1) := szAns_no (by omega)
    go_wp2
    go_ret
    exact ⟨by rw [E.out]; rfl, b3⟩
  rw [szAns_yes t3]
  have u3 : ¬ (left - (k3 : Int) < 0) := by omega
  go_wp2_with fail
  refine (q4.out _ b3 (left - (k3 : Int)) (by omega) (by omega)).mono ?_
  rintro e w4 ⟨rfl, hb4⟩
  have b4 := b3.trans (hb4.mono b3.size)
  have i4 : w4.heap[w.heap.size]? = _ := (hb4.block _ (by omega)).trans I3.out
  have z4 := hb4.size
  have y4_19 : w4.cell? ⟨w.heap.size, 19, none⟩ = some (.slice a19 n19 c19) := box_cell i4 rfl
  have y4_20 : w4.cell? ⟨w.heap.size, 20, none⟩ = some (.slice a20 n20 c20) := box_cell i4 rfl
  have I4 : Hid _ := i4
  clear i4 hb4
  by_cases t4 : (k4 : Int) ≤ left - (k3 : Int)
  rotate_left
  · rw [szAns_no t4]
    have E : Hid (szAns (k3 + k4 + k5 + k6) left = -1) := szAns_no (by omega)
    go_wp2
    go_ret
    exact ⟨by rw [E.out]; rfl, b4⟩
  rw [szAns_yes t4]
  have u4 : ¬ (left - (k3 : Int) - (k4 : Int) < 0) := by omega
  go_wp2_with fail
  refine (q5.out _ b4 (left - (k3 : Int) - (k4 : Int)) (by omega) (by omega)).mono ?_
  rintro e w5 ⟨rfl, hb5⟩
  have b5 := b4.trans (hb5.mono b4.size)
  have i5 : w5.heap[w.heap.size]? = _ := (hb5.block _ (by omega)).trans I4.out
  have z5 := hb5.size
  have y5_20 : w5.cell? ⟨w.heap.size, 20, none⟩ = some (.slice a20 n20 c20) := box_cell i5 rfl
  have I5 : Hid _ := i5
  clear i5 hb5
  by_cases t5 : (k5 : Int) ≤ left - (k3 : Int) - (k4 : Int)
  rotate_left
  · rw [szAns_no t5]
    have E : Hid (szAns (k3 + k4 + k5 + k6) left = -1) := szAns_no (by omega)
    go_wp2
    go_ret
    exact ⟨by rw [E.out]; rfl, b5⟩
  rw [szAns_yes t5]
  have u5 : ¬ (left - (k3 : Int) - (k4 : Int) - (k5 : Int) < 0) := by omega
  go_wp2_with fail
  refine (q6.out _ b5 (left - (k3 : Int) - (k4 : Int) - (k5 : Int)) (by omega) (by omega)).mono ?_
  rintro e w6 ⟨rfl, hb6⟩
  have b6 := b5.trans (hb6.mono b5.size)
  have i6 : w6.heap[w.heap.size]? = _ := (hb6.block _ (by omega)).trans I5.out
  have z6 := hb6.size
  have I6 : Hid _ := i6
  clear i6 hb6
  by_cases t6 : (k6 : Int) ≤ left - (k3 : Int) - (k4 : Int) - (k5 : Int)
  rotate_left
  · rw [szAns_no t6]
    have E : Hid (szAns (k3 + k4 + k5 + k6) left = -1) := szAns_no (by omega)
    go_wp2
    go_ret
    exact ⟨by rw [E.out]; rfl, b6⟩
  rw [szAns_yes t6]
  have u6 : ¬ (left - (k3 : Int) - (k4 : Int) - (k5 : Int) - (k6 : Int) < 0) := by omega
  have E : Hid (szAns (k3 + k4 + k5 + k6) left = left - (k3 : Int) - (k4 : Int) - (k5 : Int) - (k6 : Int)) := by show _ = _; rw [szAns_yes (by omega)]; omega
  go_wp2
  go_ret
  exact ⟨by rw [E.out]; rfl, b6⟩

theorem opens_Trial {H : Type} {enc : TypeId × Value → H} {w : World} {spare : Nat → Bool} {held : Bool} : Opens enc Try.prog w spare held 46 shTrial := by
  refine opens_struct [.bool, .int, .int, shStore, shDisk, (.sl shEntry), (.sl shEntry)] Try.underlying46 (by kernel_rfl) (fun i s hi => ?_)
  match i, hi with
  | 0, hi => obtain rfl := Option.some.inj hi; exact ⟨_, rfl, opens_bool Try.underlying4 (by kernel_rfl), rfl⟩
  | 1, hi => obtain rfl := Option.some.inj hi; exact ⟨_, rfl, opens_int Try.underlying3 (by kernel_rfl), rfl⟩
  | 2, hi => obtain rfl := Option.some.inj hi; exact ⟨_, rfl, opens_int Try.underlying3 (by kernel_rfl), rfl⟩
  | 3, hi => obtain rfl := Option.some.inj hi; exact ⟨_, rfl, opens_Store, rfl⟩
  | 4, hi => obtain rfl := Option.some.inj hi; exact ⟨_, rfl, opens_Disk, rfl⟩
  | 5, hi => obtain rfl := Option.some.inj hi; exact ⟨_, rfl, opens_sl Try.underlying42 (by kernel_rfl) (by decide) opens_Entry, rfl⟩
  | 6, hi => obtain rfl := Option.some.inj hi; exact ⟨_, rfl, opens_sl Try.underlying42 (by kernel_rfl) (by decide) opens_Entry, rfl⟩
  | n + 7, hi => simp at hi

set_option maxRecDepth 100000 in
set_option maxHeartbeats 4000000 in
theorem eqTrial_any (cs1 cs2 : List Value) (d : shTrial.D) (w : World) (hr : Reads shTrial w cs1 d) (hq : Reads shTrial w cs2 d) (hs : shTrial.sz d ≤ 1048576) :
    Calls Try.prog 7 #[.agg cs1.toArray, .agg cs2.toArray] w fun e w' => e = .returned (.bool true) ∧ Below w.heap.size w w' := by
  obtain ⟨a6, n6, c6, a7, n7, c7, a8, n8, c8, a11, n11, c11, a16, n16, c16, a17, n17, c17, a18, n18, c18, a19, n19, c19, a20, n20, c20, rfl, r3, r4, r5, r6⟩ := open_Trial hr
  obtain ⟨p6, m6, k6, p7, m7, k7, p8, m8, k8, p11, m11, k11, p16, m16, k16, p17, m17, k17, p18, m18, k18, p19, m19, k19, p20, m20, k20, rfl, t3, t4, t5, t6⟩ := open_Trial hq
  obtain ⟨x0, e0⟩ : ∃ x : Bool, x = d.1 := ⟨_, rfl⟩
  obtain ⟨x1, e1⟩ : ∃ x : Int, x = d.2.1 := ⟨_, rfl⟩
  obtain ⟨x2, e2⟩ : ∃ x : Int, x = d.2.2.1 := ⟨_, rfl⟩
  obtain ⟨x3, e3⟩ : ∃ x : Int, x = d.2.2.2.1.1.1 := ⟨_, rfl⟩
  obtain ⟨x4, e4⟩ : ∃ x : Int, x = d.2.2.2.1.1.2.1 := ⟨_, rfl⟩
  obtain ⟨x5, e5⟩ : ∃ x : Int, x = d.2.2.2.1.1.2.2.1 := ⟨_, rfl⟩
  obtain ⟨x9, e9⟩ : ∃ x : Int, x = d.2.2.2.1.2.1 := ⟨_, rfl⟩
  obtain ⟨x10, e10⟩ : ∃ x : Int, x = d.2.2.2.1.2.2.1 := ⟨_, rfl⟩
  obtain ⟨x12, e12⟩ : ∃ x : Int, x = d.2.2.2.1.2.2.2.2.1 := ⟨_, rfl⟩
  obtain ⟨x13, e13⟩ : ∃ x : Int, x = d.2.2.2.2.1.1 := ⟨_, rfl⟩
  obtain ⟨x14, e14⟩ : ∃ x : Int, x = d.2.2.2.2.1.2.1 := ⟨_, rfl⟩
  obtain ⟨x15, e15⟩ : ∃ x : Int, x = d.2.2.2.2.1.2.2.1 := ⟨_, rfl⟩
  rw [sz_Trial] at hs
  have q3 : Hid (∀ w', Below w.heap.size w w' → Calls Try.prog 18 #[.agg #[.int .i64 x3, .int .i64 x4, .int .i64 x5, .slice a6 n6 c6, .slice a7 n7 c7, .slice a8 n8 c8, .int .i64 x9, .int .i64 x10, .slice a11 n11 c11, .int .i64 x12], .agg #[.int .i64 x3, .int .i64 x4, .int .i64 x5, .slice p6 m6 k6, .slice p7 m7 k7, .slice p8 m8 k8, .int .i64 x9, .int .i64 x10, .slice p11 m11 k11, .int .i64 x12]] w' fun e w'' => e = .returned (.bool true) ∧ Below w'.heap.size w' w'') := fun w' h' => by rw [e3, e4, e5, e9, e10, e12]; exact eqStore_any _ _ _ w' (r3.later h') (t3.later h') (by show Sh.sz shStore _ ≤ _; omega)
  have q4 : Hid (∀ w', Below w.heap.size w w' → Calls Try.prog 19 #[.agg #[.int .i64 x13, .int .i64 x14, .int .i64 x15, .slice a16 n16 c16, .slice a17 n17 c17, .slice a18 n18 c18], .agg #[.int .i64 x13, .int .i64 x14, .int .i64 x15, .slice p16 m16 k16, .slice p17 m17 k17, .slice p18 m18 k18]] w' fun e w'' => e = .returned (.bool true) ∧ Below w'.heap.size w' w'') := fun w' h' => by rw [e13, e14, e15]; exact eqDisk_any _ _ _ w' (r4.later h') (t4.later h') (by show Sh.sz shDisk _ ≤ _; omega)
  obtain rfl : n19 = m19 := (reads_len r5).1.symm.trans (reads_len t5).1
  have q5 : Hid (∀ w', Below w.heap.size w w' → Calls Try.prog 20 #[.slice a19 n19 c19, .slice p19 n19 k19] w' fun e w'' => e = .returned (.bool true) ∧ Below w'.heap.size w' w'') := fun w' h' => eqEntryS_reads a19 p19 n19 c19 k19 _ w' (r5.later h') (t5.later h') (by omega)
  obtain rfl : n20 = m20 := (reads_len r6).1.symm.trans (reads_len t6).1
  have q6 : Hid (∀ w', Below w.heap.size w w' → Calls Try.prog 20 #[.slice a20 n20 c20, .slice p20 n20 k20] w' fun e w'' => e = .returned (.bool true) ∧ Below w'.heap.size w' w'') := fun w' h' => eqEntryS_reads a20 p20 n20 c20 k20 _ w' (r6.later h') (t6.later h') (by omega)
  rw [← e0, ← e1, ← e2, ← e3, ← e4, ← e5, ← e9, ← e10, ← e12, ← e13, ← e14, ← e15]
  have ne0 : (x0 != x0) = false := by simp
  have ne1 : (x1 != x1) = false := by simp
  have ne2 : (x2 != x2) = false := by simp
  clear hr hq hs r3 t3 r4 t4 r5 t5 r6 t6 e0 e1 e2 e3 e4 e5 e9 e10 e12 e13 e14 e15
  obtain ⟨W0, hW0⟩ : ∃ W0, W0 = (w.alloc (.cells #[.bool x0, .int .i64 x1, .int .i64 x2, .int .i64 x3, .int .i64 x4, .int .i64 x5, .slice a6 n6 c6, .slice a7 n7 c7, .slice a8 n8 c8, .int .i64 x9, .int .i64 x10, .slice a11 n11 c11, .int .i64 x12, .int .i64 x13, .int .i64 x14, .int .i64 x15, .slice a16 n16 c16, .slice a17 n17 c17, .slice a18 n18 c18, .slice a19 n19 c19, .slice a20 n20 c20] 31)).alloc (.cells #[.bool x0, .int .i64 x1, .int .i64 x2, .int .i64 x3, .int .i64 x4, .int .i64 x5, .slice p6 m6 k6, .slice p7 m7 k7, .slice p8 m8 k8, .int .i64 x9, .int .i64 x10, .slice p11 m11 k11, .int .i64 x12, .int .i64 x13, .int .i64 x14, .int .i64 x15, .slice p16 m16 k16, .slice p17 m17 k17, .slice p18 m18 k18, .slice p19 n19 k19, .slice p20 n20 k20] 31) := ⟨_, rfl⟩
  have bW0 : Below w.heap.size w W0 := by rw [hW0]; exact ((Below.refl _ _).alloc (Nat.le_refl _) _).alloc (by simp) _
  have hA : W0.heap[w.heap.size]? = some (.cells #[.bool x0, .int .i64 x1, .int .i64 x2, .int .i64 x3, .int .i64 x4, .int .i64 x5, .slice a6 n6 c6, .slice a7 n7 c7, .slice a8 n8 c8, .int .i64 x9, .int .i64 x10, .slice a11 n11 c11, .int .i64 x12, .int .i64 x13, .int .i64 x14, .int .i64 x15, .slice a16 n16 c16, .slice a17 n17 c17, .slice a18 n18 c18, .slice a19 n19 c19, .slice a20 n20 c20] 31 (0, 0)) := by rw [hW0, heap_alloc_old _ _ (by simp)]; exact heap_alloc_new w _
  have hB : W0.heap[w.heap.size + 1]? = some (.cells #[.bool x0, .int .i64 x1, .int .i64 x2, .int .i64 x3, .int .i64 x4, .int .i64 x5, .slice p6 m6 k6, .slice p7 m7 k7, .slice p8 m8 k8, .int .i64 x9, .int .i64 x10, .slice p11 m11 k11, .int .i64 x12, .int .i64 x13, .int .i64 x14, .int .i64 x15, .slice p16 m16 k16, .slice p17 m17 k17, .slice p18 m18 k18, .slice p19 n19 k19, .slice p20 n20 k20] 31 (0, 0)) := by rw [hW0]; exact (by have := heap_alloc_new (w.alloc (.cells #[.bool x0, .int .i64 x1, .int .i64 x2, .int .i64 x3, .int .i64 x4, .int .i64 x5, .slice a6 n6 c6, .slice a7 n7 c7, .slice a8 n8 c8, .int .i64 x9, .int .i64 x10, .slice a11 n11 c11, .int .i64 x12, .int .i64 x13, .int .i64 x14, .int .i64 x15, .slice a16 n16 c16, .slice a17 n17 c17, .slice a18 n18 c18, .slice a19 n19 c19, .slice a20 n20 c20] 31)) (.cells #[.bool x0, .int .i64 x1, .int .i64 x2, .int .i64 x3, .int .i64 x4, .int .i64 x5, .slice p6 m6 k6, .slice p7 m7 k7, .slice p8 m8 k8, .int .i64 x9, .int .i64 x10, .slice p11 m11 k11, .int .i64 x12, .int .i64 x13, .int .i64 x14, .int .i64 x15, .slice p16 m16 k16, .slice p17 m17 k17, .slice p18 m18 k18, .slice p19 n19 k19, .slice p20 n20 k20] 31); simpa using this)
  have zW0 : W0.heap.size = w.heap.size + 1 + 1 := by rw [hW0]; simp
  have HW0 : Hid (W0 = _) := hW0
  have HAB : Hid (_ ∧ _) := ⟨hA, hB⟩
  clear hW0 hA hB
  go_enter Try.func7, Try.ntmps7
  go_wp2_with fail
  rw [← HW0.out]
  refine (q3.out _ bW0).mono ?_
  rintro e w3 ⟨rfl, hb3⟩
  have b3 := bW0.trans (hb3.mono bW0.size)
  have z3 := hb3.size
  have iA : w3.heap[w.heap.size]? = some (.cells #[.bool x0, .int .i64 x1, .int .i64 x2, .int .i64 x3, .int .i64 x4, .int .i64 x5, .slice a6 n6 c6, .slice a7 n7 c7, .slice a8 n8 c8, .int .i64 x9, .int .i64 x10, .slice a11 n11 c11, .int .i64 x12, .int .i64 x13, .int .i64 x14, .int .i64 x15, .slice a16 n16 c16, .slice a17 n17 c17, .slice a18 n18 c18, .slice a19 n19 c19, .slice a20 n20 c20] 31 (0, 0)) := (hb3.block _ (by omega)).trans HAB.out.1
  have iB : w3.heap[w.heap.size + 1]? = some (.cells #[.bool x0, .int .i64 x1, .int .i64 x2, .int .i64 x3, .int .i64 x4, .int .i64 x5, .slice p6 m6 k6, .slice p7 m7 k7, .slice p8 m8 k8, .int .i64 x9, .int .i64 x10, .slice p11 m11 k11, .int .i64 x12, .int .i64 x13, .int .i64 x14, .int .i64 x15, .slice p16 m16 k16, .slice p17 m17 k17, .slice p18 m18 k18, .slice p19 n19 k19, .slice p20 n20 k20] 31 (0, 0)) := (hb3.block _ (by omega)).trans HAB.out.2
  have ya3_13 : w3.cell? ⟨w.heap.size, 13, none⟩ = some (.int .i64 x13) := box_cell iA rfl
  have yb3_13 : w3.cell? ⟨w.heap.size + 1, 13, none⟩ = some (.int .i64 x13) := box_cell iB rfl
  have ya3_14 : w3.cell? ⟨w.heap.size, 14, none⟩ = some (.int .i64 x14) := box_cell iA rfl
  have yb3_14 : w3.cell? ⟨w.heap.size + 1, 14, none⟩ = some (.int .i64 x14) := box_cell iB rfl
  have ya3_15 : w3.cell? ⟨w.heap.size, 15, none⟩ = some (.int .i64 x15) := box_cell iA rfl
  have yb3_15 : w3.cell? ⟨w.heap.size + 1, 15, none⟩ = some (.int .i64 x15) := box_cell iB rfl
  have ya3_16 : w3.cell? ⟨w.heap.size, 16, none⟩ = some (.slice a16 n16 c16) := box_cell iA rfl
  have yb3_16 : w3.cell? ⟨w.heap.size + 1, 16, none⟩ = some (.slice p16 m16 k16) := box_cell iB rfl
  have ya3_17 : w3.cell? ⟨w.heap.size, 17, none⟩ = some (.slice a17 n17 c17) := box_cell iA rfl
  have yb3_17 : w3.cell? ⟨w.heap.size + 1, 17, none⟩ = some (.slice p17 m17 k17) := box_cell iB rfl
  have ya3_18 : w3.cell? ⟨w.heap.size, 18, none⟩ = some (.slice a18 n18 c18) := box_cell iA rfl
  have yb3_18 : w3.cell? ⟨w.heap.size + 1, 18, none⟩ = some (.slice p18 m18 k18) := box_cell iB rfl
  have ya3_19 : w3.cell? ⟨w.heap.size, 19, none⟩ = some (.slice a19 n19 c19) := box_cell iA rfl
  have yb3_19 : w3.cell? ⟨w.heap.size + 1, 19, none⟩ = some (.slice p19 n19 k19) := box_cell iB rfl
  have ya3_20 : w3.cell? ⟨w.heap.size, 20, none⟩ = some (.slice a20 n20 c20) := box_cell iA rfl
  have yb3_20 : w3.cell? ⟨w.heap.size + 1, 20, none⟩ = some (.slice p20 n20 k20) := box_cell iB rfl
  have I3 : Hid (_ ∧ _) := ⟨iA, iB⟩
  clear iA iB hb3
  go_wp2_with fail
  refine (q4.out _ b3).mono ?_
  rintro e w4 ⟨rfl, hb4⟩
  have b4 := b3.trans (hb4.mono b3.size)
  have z4 := hb4.size
  have iA : w4.heap[w.heap.size]? = some (.cells #[.bool x0, .int .i64 x1, .int .i64 x2, .int .i64 x3, .int .i64 x4, .int .i64 x5, .slice a6 n6 c6, .slice a7 n7 c7, .slice a8 n8 c8, .int .i64 x9, .int .i64 x10, .slice a11 n11 c11, .int .i64 x12, .int .i64 x13, .int .i64 x14, .int .i64 x15, .slice a16 n16 c16, .slice a17 n17 c17, .slice a18 n18 c18, .slice a19 n19 c19, .slice a20 n20 c20] 31 (0, 0)) := (hb4.block _ (by omega)).trans I3.out.1
  have iB : w4.heap[w.heap.size + 1]? = some (.cells #[.bool x0, .int .i64 x1, .int .i64 x2, .int .i64 x3, .int .i64 x4, .int .i64 x5, .slice p6 m6 k6, .slice p7 m7 k7, .slice p8 m8 k8, .int .i64 x9, .int .i64 x10, .slice p11 m11 k11, .int .i64 x12, .int .i64 x13, .int .i64 x14, .int .i64 x15, .slice p16 m16 k16, .slice p17 m17 k17, .slice p18 m18 k18, .slice p19 n19 k19, .slice p20 n20 k20] 31 (0, 0)) := (hb4.block _ (by omega)).trans I3.out.2
  have ya4_19 : w4.cell? ⟨w.heap.size, 19, none⟩ = some (.slice a19 n19 c19) := box_cell iA rfl
  have yb4_19 : w4.cell? ⟨w.heap.size + 1, 19, none⟩ = some (.slice p19 n19 k19) := box_cell iB rfl
  have ya4_20 : w4.cell? ⟨w.heap.size, 20, none⟩ = some (.slice a20 n20 c20) := box_cell iA rfl
  have yb4_20 : w4.cell? ⟨w.heap.size + 1, 20, none⟩ = some (.slice p20 n20 k20) := box_cell iB rfl
  have I4 : Hid (_ ∧ _) := ⟨iA, iB⟩
  clear iA iB hb4
  go_wp2_with fail
  refine (q5.out _ b4).mono ?_
  rintro e w5 ⟨rfl, hb5⟩
  have b5 := b4.trans (hb5.mono b4.size)
  have z5 := hb5.size
  have iA : w5.heap[w.heap.size]? = some (.cells #[.bool x0, .int .i64 x1, .int .i64 x2, .int .i64 x3, .int .i64 x4, .int .i64 x5, .slice a6 n6 c6, .slice a7 n7 c7, .slice a8 n8 c8, .int .i64 x9, .int .i64 x10, .slice a11 n11 c11, .int .i64 x12, .int .i64 x13, .int .i64 x14, .int .i64 x15, .slice a16 n16 c16, .slice a17 n17 c17, .slice a18 n18 c18, .slice a19 n19 c19, .slice a20 n20 c20] 31 (0, 0)) := (hb5.block _ (by omega)).trans I4.out.1
  have iB : w5.heap[w.heap.size + 1]? = some (.cells #[.bool x0, .int .i64 x1, .int .i64 x2, .int .i64 x3, .int .i64 x4, .int .i64 x5, .slice p6 m6 k6, .slice p7 m7 k7, .slice p8 m8 k8, .int .i64 x9, .int .i64 x10, .slice p11 m11 k11, .int .i64 x12, .int .i64 x13, .int .i64 x14, .int .i64 x15, .slice p16 m16 k16, .slice p17 m17 k17, .slice p18 m18 k18, .slice p19 n19 k19, .slice p20 n20 k20] 31 (0, 0)) := (hb5.block _ (by omega)).trans I4.out.2
  have ya5_20 : w5.cell? ⟨w.heap.size, 20, none⟩ = some (.slice a20 n20 c20) := box_cell iA rfl
  have yb5_20 : w5.cell? ⟨w.heap.size + 1, 20, none⟩ = some (.slice p20 n20 k20) := box_cell iB rfl
  have I5 : Hid (_ ∧ _) := ⟨iA, iB⟩
  clear iA iB hb5
  go_wp2_with fail
  refine (q6.out _ b5).mono ?_
  rintro e w6 ⟨rfl, hb6⟩
  have b6 := b5.trans (hb6.mono b5.size)
  have z6 := hb6.size
  have iA : w6.heap[w.heap.size]? = some (.cells #[.bool x0, .int .i64 x1, .int .i64 x2, .int .i64 x3, .int .i64 x4, .int .i64 x5, .slice a6 n6 c6, .slice a7 n7 c7, .slice a8 n8 c8, .int .i64 x9, .int .i64 x10, .slice a11 n11 c11, .int .i64 x12, .int .i64 x13, .int .i64 x14, .int .i64 x15, .slice a16 n16 c16, .slice a17 n17 c17, .slice a18 n18 c18, .slice a19 n19 c19, .slice a20 n20 c20] 31 (0, 0)) := (hb6.block _ (by omega)).trans I5.out.1
  have iB : w6.heap[w.heap.size + 1]? = some (.cells #[.bool x0, .int .i64 x1, .int .i64 x2, .int .i64 x3, .int .i64 x4, .int .i64 x5, .slice p6 m6 k6, .slice p7 m7 k7, .slice p8 m8 k8, .int .i64 x9, .int .i64 x10, .slice p11 m11 k11, .int .i64 x12, .int .i64 x13, .int .i64 x14, .int .i64 x15, .slice p16 m16 k16, .slice p17 m17 k17, .slice p18 m18 k18, .slice p19 n19 k19, .slice p20 n20 k20] 31 (0, 0)) := (hb6.block _ (by omega)).trans I5.out.2
  have I6 : Hid (_ ∧ _) := ⟨iA, iB⟩
  clear iA iB hb6
  go_wp2
  go_ret
  exact ⟨rfl, b6⟩

end Go.Proofs.Ytdmgknmlgipnpaa
