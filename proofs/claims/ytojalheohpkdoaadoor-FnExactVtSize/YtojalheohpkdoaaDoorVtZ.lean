/-
  VtSize of both sides. By program (vtsizegen.py).
-/
import Derived.Test.YtojalheohpkdoaaDoorVtN
import Derived.Test.YtojalheohpkdoaaDoorVtI
import Derived.Test.YtojalheohpkdoaaDoorVtS
import Derived.Test.YtojalheohpkdoaaDoorMkVt
namespace Go.Proofs.YtojalheohpkdoaaDoor
open Go.RowKit
set_option linter.unusedVariables false
set_option linter.unusedSimpArgs false

def zeroT : VtD := (zeroG, (0 : Int), [], [], (0 : Int), ())
def vtZ (d : VtD) (x y : Int) : VtD := if (sidesB x y && vtB d) = true then (newG x y, (0 : Int), [], [], d.2.2.2.2.1, ()) else zeroT

theorem vtZ_no {d : VtD} {x y : Int} (h : (sidesB x y && vtB d) = false) : vtZ d x y = zeroT := by
  unfold vtZ; rw [h]; rfl
theorem vtZ_yes {d : VtD} {x y : Int} (h : (sidesB x y && vtB d) = true) : vtZ d x y = (newG x y, (0 : Int), [], [], d.2.2.2.2.1, ()) := by
  unfold vtZ; rw [h]; rfl

theorem own_zeroT (w : World) (B : Nat) : Own shVt w B [.int .i64 0, .int .i64 0, .slice none 0 0, .int .i64 0, .int .i64 0, .bool false, .int .i64 0, .slice none 0 0, .slice none 0 0, .int .i64 0] zeroT [] :=
  own_Vt (d := zeroT) (F0 := []) (F2 := []) (F3 := []) (own_zeroG w B) (.inl ⟨rfl, rfl, rfl⟩) (.inl ⟨rfl, rfl, rfl⟩)

theorem own_bells {w : World} {B0 : Nat} {g0 g1 g3 g4 g6 g9 be : Int} {g5 : Bool} {b2 b7 b8 : Option Addr} {m2 k2 m7 k7 m8 k8 : Nat} {d : VtD} {F : List Nat} (h : Own shVt w B0 [.int .i64 g0, .int .i64 g1, .slice b2 m2 k2, .int .i64 g3, .int .i64 g4, .bool g5, .int .i64 g6, .slice b7 m7 k7, .slice b8 m8 k8, .int .i64 g9] d F) :
    Own shVt w B0 [.int .i64 g0, .int .i64 g1, .slice b2 m2 k2, .int .i64 g3, .int .i64 g4, .bool g5, .int .i64 g6, .slice b7 m7 k7, .slice b8 m8 k8, .int .i64 be] ((d.1, d.2.1, d.2.2.1, d.2.2.2.1, be, ()) : VtD) F := by
  obtain ⟨p2, q2, r2, F0, p7, q7, r7, F2, p8, q8, r8, F3, hcs, rfl, o0, o2, o3⟩ := openO_Vt h
  simp only [List.cons.injEq] at hcs
  obtain ⟨h0, h1, h2, h3, h4, h5, h6, h7, h8, h9, _⟩ := hcs
  obtain ⟨_, rfl⟩ := Value.int.inj h0
  obtain ⟨_, rfl⟩ := Value.int.inj h1
  obtain ⟨rfl, rfl, rfl⟩ := Value.slice.inj h2
  obtain ⟨_, rfl⟩ := Value.int.inj h3
  obtain ⟨_, rfl⟩ := Value.int.inj h4
  obtain rfl := Value.bool.inj h5
  obtain ⟨_, rfl⟩ := Value.int.inj h6
  obtain ⟨rfl, rfl, rfl⟩ := Value.slice.inj h7
  obtain ⟨rfl, rfl, rfl⟩ := Value.slice.inj h8
  exact own_Vt (d := ((d.1, d.2.1, d.2.2.1, d.2.2.2.1, be, ()) : VtD)) o0 o2 o3

set_option maxRecDepth 100000 in
set_option maxHeartbeats 8000000 in
theorem implVtSize_any (x0 x1 x3 x4 st be : Int) (x5 : Bool) (a2 a7 a8 : Option Addr) (n2 c2 n7 c7 n8 c8 : Nat) (zs ag ps : List Int) (x y : Int) (w : World) (hT : Tabs w) (hg : Reads (.sl .int) w [.slice a2 n2 c2] zs) (ha : Reads (.sl .int) w [.slice a7 n7 c7] ag) (hp : Reads (.sl .u8) w [.slice a8 n8 c8] ps) (hn : n8 ≤ 2097152) :
    Calls Tryd.prog 12 #[.agg #[.int .i64 x0, .int .i64 x1, .slice a2 n2 c2, .int .i64 x3, .int .i64 x4, .bool x5, .int .i64 st, .slice a7 n7 c7, .slice a8 n8 c8, .int .i64 be], .int .i64 x, .int .i64 y] w fun e w' => ∃ o F, e = .returned (.tuple #[.agg o.toArray, .bool (sidesB x y && vtB ((x0, x1, zs, x3, x4, x5, ()), st, ag, ps, be, ()))]) ∧ Own shVt w' w.heap.size o (vtZ ((x0, x1, zs, x3, x4, x5, ()), st, ag, ps, be, ()) x y) F ∧ F.Nodup ∧ Below w.heap.size w w' := by
  obtain ⟨D, hD⟩ : ∃ D : VtD, D = vtA (newG x y) := ⟨_, rfl⟩
  have qn : Hid (∀ w' b, sidesB x y = b → Calls Tryd.prog 32 #[.int .i64 x, .int .i64 y] w' fun e w'' => ∃ o F, e = .returned (.tuple #[.agg o.toArray, .bool b]) ∧ Own shVt w'' w'.heap.size o D F ∧ F.Nodup ∧ Below w'.heap.size w' w'') := fun w' b hb => by rw [← hb, hD]; exact implVtNew_any x y w'
  have qv : Hid (∀ w' b, vtB ((x0, x1, zs, x3, x4, x5, ()), st, ag, ps, be, ()) = b → Below w.heap.size w w' → Calls Tryd.prog 9 #[.agg #[.int .i64 x0, .int .i64 x1, .slice a2 n2 c2, .int .i64 x3, .int .i64 x4, .bool x5, .int .i64 st, .slice a7 n7 c7, .slice a8 n8 c8, .int .i64 be]] w' fun e w'' => e = .returned (.bool b) ∧ Below w'.heap.size w' w'') := fun w' b hb hw => by
    rw [← hb]; exact vtok_any x0 x1 x3 x4 st be x5 a2 a7 a8 n2 c2 n7 c7 n8 c8 zs ag ps w' (hT.later hw) (hg.later hw) (ha.later hw) (hp.later hw) hn
  obtain ⟨g0, e0⟩ : ∃ x : Int, x = D.1.1 := ⟨_, rfl⟩
  obtain ⟨g1, e1⟩ : ∃ x : Int, x = D.1.2.1 := ⟨_, rfl⟩
  obtain ⟨g3, e3⟩ : ∃ x : Int, x = D.1.2.2.2.1 := ⟨_, rfl⟩
  obtain ⟨g4, e4⟩ : ∃ x : Int, x = D.1.2.2.2.2.1 := ⟨_, rfl⟩
  obtain ⟨g5, e5⟩ : ∃ x : Bool, x = D.1.2.2.2.2.2.1 := ⟨_, rfl⟩
  obtain ⟨g6, e6⟩ : ∃ x : Int, x = D.2.1 := ⟨_, rfl⟩
  obtain ⟨g9, e9⟩ : ∃ x : Int, x = D.2.2.2.2.1 := ⟨_, rfl⟩
  have HE : Hid (g0 = D.1.1 ∧ g1 = D.1.2.1 ∧ g3 = D.1.2.2.2.1 ∧ g4 = D.1.2.2.2.2.1 ∧ g5 = D.1.2.2.2.2.2.1 ∧ g6 = D.2.1 ∧ g9 = D.2.2.2.2.1) := ⟨e0, e1, e3, e4, e5, e6, e9⟩
  have HDD : Hid (D = vtA (newG x y)) := hD
  clear hg ha hp hT hD e0 e1 e3 e4 e5 e6 e9
  obtain ⟨W1, hW1⟩ : ∃ W, W = (w.alloc (.cells #[.int .i64 x0, .int .i64 x1, .slice a2 n2 c2, .int .i64 x3, .int .i64 x4, .bool x5, .int .i64 st, .slice a7 n7 c7, .slice a8 n8 c8, .int .i64 be] 32)).alloc (.cells #[.int .i64 0, .int .i64 0, .slice none 0 0, .int .i64 0, .int .i64 0, .bool false, .int .i64 0, .slice none 0 0, .slice none 0 0, .int .i64 0] 32) := ⟨_, rfl⟩
  have bW1 : Below w.heap.size w W1 := by rw [hW1]; exact ((Below.refl _ _).alloc (Nat.le_refl _) _).alloc (by simp) _
  have zW1 : W1.heap.size = w.heap.size + 2 := by rw [hW1]; simp
  have hA1 : W1.heap[w.heap.size]? = some (.cells #[.int .i64 x0, .int .i64 x1, .slice a2 n2 c2, .int .i64 x3, .int .i64 x4, .bool x5, .int .i64 st, .slice a7 n7 c7, .slice a8 n8 c8, .int .i64 be] 32 (0, 0)) := by rw [hW1, heap_alloc_old _ _ (by simp)]; exact heap_alloc_new w _
  have hZ1 : W1.heap[w.heap.size + 1]? = some (.cells #[.int .i64 0, .int .i64 0, .slice none 0 0, .int .i64 0, .int .i64 0, .bool false, .int .i64 0, .slice none 0 0, .slice none 0 0, .int .i64 0] 32 (0, 0)) := by rw [hW1]; have := heap_alloc_new (w.alloc (.cells #[.int .i64 x0, .int .i64 x1, .slice a2 n2 c2, .int .i64 x3, .int .i64 x4, .bool x5, .int .i64 st, .slice a7 n7 c7, .slice a8 n8 c8, .int .i64 be] 32)) (.cells #[.int .i64 0, .int .i64 0, .slice none 0 0, .int .i64 0, .int .i64 0, .bool false, .int .i64 0, .slice none 0 0, .slice none 0 0, .int .i64 0] 32); simpa using this
  have HBX : Hid (∀ w', Below W1.heap.size W1 w' → w'.heap[w.heap.size]? = some (.cells #[.int .i64 x0, .int .i64 x1, .slice a2 n2 c2, .int .i64 x3, .int .i64 x4, .bool x5, .int .i64 st, .slice a7 n7 c7, .slice a8 n8 c8, .int .i64 be] 32 (0, 0)) ∧ w'.heap[w.heap.size + 1]? = some (.cells #[.int .i64 0, .int .i64 0, .slice none 0 0, .int .i64 0, .int .i64 0, .bool false, .int .i64 0, .slice none 0 0, .slice none 0 0, .int .i64 0] 32 (0, 0))) := fun w' h => ⟨(h.block _ (by omega)).trans hA1, (h.block _ (by omega)).trans hZ1⟩
  have HB1 : Hid (Below w.heap.size w W1 ∧ W1.heap.size = w.heap.size + 2) := ⟨bW1, zW1⟩
  have HW : Hid (W1 = _) := hW1
  clear hW1 hA1 hZ1 bW1 zW1
  by_cases hs : sidesB x y = true
  rotate_left
  · have HS : Hid (sidesB x y = false) := by show _ = _; simpa using hs
    clear hs
    have E : Hid ((sidesB x y && vtB ((x0, x1, zs, x3, x4, x5, ()), st, ag, ps, be, ())) = false ∧ vtZ ((x0, x1, zs, x3, x4, x5, ()), st, ag, ps, be, ()) x y = zeroT) := by
      have h : (sidesB x y && vtB ((x0, x1, zs, x3, x4, x5, ()), st, ag, ps, be, ())) = false := by rw [HS.out]; rfl
      exact ⟨h, vtZ_no h⟩
    go_enter Tryd.func12, Tryd.ntmps12
    go_wp2_with fail
    rw [← HW.out]
    refine (qn.out _ false HS.out).mono ?_
    rintro e w2 ⟨o, F, he, ho, hnd, hb⟩
    obtain ⟨b2, m2, k2, F0, b7, m7, k7, F2, b8, m8, k8, F3, hcs, _⟩ := openO_Vt ho
    rw [← HE.out.1, ← HE.out.2.1, ← HE.out.2.2.1, ← HE.out.2.2.2.1, ← HE.out.2.2.2.2.1, ← HE.out.2.2.2.2.2.1, ← HE.out.2.2.2.2.2.2] at hcs
    subst hcs
    subst he
    have s3 : Hid (Below W1.heap.size W1 (w2.alloc (.cells #[.int .i64 g0, .int .i64 g1, .slice b2 m2 k2, .int .i64 g3, .int .i64 g4, .bool g5, .int .i64 g6, .slice b7 m7 k7, .slice b8 m8 k8, .int .i64 g9] 32)) ∧ W1.heap.size ≤ w2.heap.size) := ⟨hb.alloc hb.size _, hb.size⟩
    have HOW2 : Hid (Own shVt (w2.alloc (.cells #[.int .i64 g0, .int .i64 g1, .slice b2 m2 k2, .int .i64 g3, .int .i64 g4, .bool g5, .int .i64 g6, .slice b7 m7 k7, .slice b8 m8 k8, .int .i64 g9] 32)) W1.heap.size [.int .i64 g0, .int .i64 g1, .slice b2 m2 k2, .int .i64 g3, .int .i64 g4, .bool g5, .int .i64 g6, .slice b7 m7 k7, .slice b8 m8 k8, .int .i64 g9] D F ∧ ∀ g ∈ F, g < w2.heap.size) := ⟨ho.later ((Below.refl w2.heap.size w2).alloc (Nat.le_refl _) _), fun g hg => (ho.lt g hg).2⟩
    have HND : Hid F.Nodup := hnd
    clear ho hb hnd
    have i3 := HBX.out _ s3.out.1
    have HLD : (loadVar 32 ⟨w.heap.size + 1, 0, none⟩).run Tryd.prog ((w2.alloc (.cells #[.int .i64 g0, .int .i64 g1, .slice b2 m2 k2, .int .i64 g3, .int .i64 g4, .bool g5, .int .i64 g6, .slice b7 m7 k7, .slice b8 m8 k8, .int .i64 g9] 32)).setRow (w.heap.size + 1) #[.int .i64 0, .int .i64 0, .slice none 0 0, .int .i64 0, .int .i64 0, .bool false, .int .i64 0, .slice none 0 0, .slice none 0 0, .int .i64 0]) = .ok (.agg #[.int .i64 0, .int .i64 0, .slice none 0 0, .int .i64 0, .int .i64 0, .bool false, .int .i64 0, .slice none 0 0, .slice none 0 0, .int .i64 0]) ((w2.alloc (.cells #[.int .i64 g0, .int .i64 g1, .slice b2 m2 k2, .int .i64 g3, .int .i64 g4, .bool g5, .int .i64 g6, .slice b7 m7 k7, .slice b8 m8 k8, .int .i64 g9] 32)).setRow (w.heap.size + 1) #[.int .i64 0, .int .i64 0, .slice none 0 0, .int .i64 0, .int .i64 0, .bool false, .int .i64 0, .slice none 0 0, .slice none 0 0, .int .i64 0]) := run_loadVar_row _ _ _ _ _ _ _ (setRow_heap _ _ _ _ _ _ i3.2) Tryd.underlying32 rfl (by kernel_rfl)
    have HO : Hid (Below w.heap.size w ((w2.alloc (.cells #[.int .i64 g0, .int .i64 g1, .slice b2 m2 k2, .int .i64 g3, .int .i64 g4, .bool g5, .int .i64 g6, .slice b7 m7 k7, .slice b8 m8 k8, .int .i64 g9] 32)).setRow (w.heap.size + 1) #[.int .i64 0, .int .i64 0, .slice none 0 0, .int .i64 0, .int .i64 0, .bool false, .int .i64 0, .slice none 0 0, .slice none 0 0, .int .i64 0])) := below_setRow (HB1.out.1.trans (s3.out.1.mono HB1.out.1.size)) (Nat.le_add_right _ 1) #[.int .i64 0, .int .i64 0, .slice none 0 0, .int .i64 0, .int .i64 0, .bool false, .int .i64 0, .slice none 0 0, .slice none 0 0, .int .i64 0]
    go_wp2_with (refine wpList_store_row rfl _ _ _ rfl _ _ rfl rfl _ _ i3.2 (by kernel_rfl) rfl (by simp [Value.oneCell']) ?_)
    (try simp only [Exit.inBlock, Exit.then])
    refine bodyPost_ret (by simp [results, Tryd.results12, asAddr, Act.put, HLD]; try rfl) rfl ?_
    refine ⟨_, [], by (rw [E.out.1]; try rfl), ?_, List.nodup_nil, HO.out⟩
    rw [E.out.2]
    exact own_zeroT _ _
  have HS : Hid (sidesB x y = true) := hs
  clear hs
  by_cases hv : vtB ((x0, x1, zs, x3, x4, x5, ()), st, ag, ps, be, ()) = true
  rotate_left
  · have HV : Hid (vtB ((x0, x1, zs, x3, x4, x5, ()), st, ag, ps, be, ()) = false) := by show _ = _; simpa using hv
    clear hv
    have E : Hid ((sidesB x y && vtB ((x0, x1, zs, x3, x4, x5, ()), st, ag, ps, be, ())) = false ∧ vtZ ((x0, x1, zs, x3, x4, x5, ()), st, ag, ps, be, ()) x y = zeroT) := by
      have h : (sidesB x y && vtB ((x0, x1, zs, x3, x4, x5, ()), st, ag, ps, be, ())) = false := by rw [HV.out, Bool.and_false]
      exact ⟨h, vtZ_no h⟩
    go_enter Tryd.func12, Tryd.ntmps12
    go_wp2_with fail
    rw [← HW.out]
    refine (qn.out _ true HS.out).mono ?_
    rintro e w2 ⟨o, F, he, ho, hnd, hb⟩
    obtain ⟨b2, m2, k2, F0, b7, m7, k7, F2, b8, m8, k8, F3, hcs, _⟩ := openO_Vt ho
    rw [← HE.out.1, ← HE.out.2.1, ← HE.out.2.2.1, ← HE.out.2.2.2.1, ← HE.out.2.2.2.2.1, ← HE.out.2.2.2.2.2.1, ← HE.out.2.2.2.2.2.2] at hcs
    subst hcs
    subst he
    have s3 : Hid (Below W1.heap.size W1 (w2.alloc (.cells #[.int .i64 g0, .int .i64 g1, .slice b2 m2 k2, .int .i64 g3, .int .i64 g4, .bool g5, .int .i64 g6, .slice b7 m7 k7, .slice b8 m8 k8, .int .i64 g9] 32)) ∧ W1.heap.size ≤ w2.heap.size) := ⟨hb.alloc hb.size _, hb.size⟩
    have HOW2 : Hid (Own shVt (w2.alloc (.cells #[.int .i64 g0, .int .i64 g1, .slice b2 m2 k2, .int .i64 g3, .int .i64 g4, .bool g5, .int .i64 g6, .slice b7 m7 k7, .slice b8 m8 k8, .int .i64 g9] 32)) W1.heap.size [.int .i64 g0, .int .i64 g1, .slice b2 m2 k2, .int .i64 g3, .int .i64 g4, .bool g5, .int .i64 g6, .slice b7 m7 k7, .slice b8 m8 k8, .int .i64 g9] D F ∧ ∀ g ∈ F, g < w2.heap.size) := ⟨ho.later ((Below.refl w2.heap.size w2).alloc (Nat.le_refl _) _), fun g hg => (ho.lt g hg).2⟩
    have HND : Hid F.Nodup := hnd
    clear ho hb hnd
    have i3 := HBX.out _ s3.out.1
    have y0 : (w2.alloc (.cells #[.int .i64 g0, .int .i64 g1, .slice b2 m2 k2, .int .i64 g3, .int .i64 g4, .bool g5, .int .i64 g6, .slice b7 m7 k7, .slice b8 m8 k8, .int .i64 g9] 32)).cell? ⟨w.heap.size, 0, none⟩ = some (.int .i64 x0) := box_cell i3.1 rfl
    have y1 : (w2.alloc (.cells #[.int .i64 g0, .int .i64 g1, .slice b2 m2 k2, .int .i64 g3, .int .i64 g4, .bool g5, .int .i64 g6, .slice b7 m7 k7, .slice b8 m8 k8, .int .i64 g9] 32)).cell? ⟨w.heap.size, 1, none⟩ = some (.int .i64 x1) := box_cell i3.1 rfl
    have y2 : (w2.alloc (.cells #[.int .i64 g0, .int .i64 g1, .slice b2 m2 k2, .int .i64 g3, .int .i64 g4, .bool g5, .int .i64 g6, .slice b7 m7 k7, .slice b8 m8 k8, .int .i64 g9] 32)).cell? ⟨w.heap.size, 2, none⟩ = some (.slice a2 n2 c2) := box_cell i3.1 rfl
    have y3 : (w2.alloc (.cells #[.int .i64 g0, .int .i64 g1, .slice b2 m2 k2, .int .i64 g3, .int .i64 g4, .bool g5, .int .i64 g6, .slice b7 m7 k7, .slice b8 m8 k8, .int .i64 g9] 32)).cell? ⟨w.heap.size, 3, none⟩ = some (.int .i64 x3) := box_cell i3.1 rfl
    have y4 : (w2.alloc (.cells #[.int .i64 g0, .int .i64 g1, .slice b2 m2 k2, .int .i64 g3, .int .i64 g4, .bool g5, .int .i64 g6, .slice b7 m7 k7, .slice b8 m8 k8, .int .i64 g9] 32)).cell? ⟨w.heap.size, 4, none⟩ = some (.int .i64 x4) := box_cell i3.1 rfl
    have y5 : (w2.alloc (.cells #[.int .i64 g0, .int .i64 g1, .slice b2 m2 k2, .int .i64 g3, .int .i64 g4, .bool g5, .int .i64 g6, .slice b7 m7 k7, .slice b8 m8 k8, .int .i64 g9] 32)).cell? ⟨w.heap.size, 5, none⟩ = some (.bool x5) := box_cell i3.1 rfl
    have y6 : (w2.alloc (.cells #[.int .i64 g0, .int .i64 g1, .slice b2 m2 k2, .int .i64 g3, .int .i64 g4, .bool g5, .int .i64 g6, .slice b7 m7 k7, .slice b8 m8 k8, .int .i64 g9] 32)).cell? ⟨w.heap.size, 6, none⟩ = some (.int .i64 st) := box_cell i3.1 rfl
    have y7 : (w2.alloc (.cells #[.int .i64 g0, .int .i64 g1, .slice b2 m2 k2, .int .i64 g3, .int .i64 g4, .bool g5, .int .i64 g6, .slice b7 m7 k7, .slice b8 m8 k8, .int .i64 g9] 32)).cell? ⟨w.heap.size, 7, none⟩ = some (.slice a7 n7 c7) := box_cell i3.1 rfl
    have y8 : (w2.alloc (.cells #[.int .i64 g0, .int .i64 g1, .slice b2 m2 k2, .int .i64 g3, .int .i64 g4, .bool g5, .int .i64 g6, .slice b7 m7 k7, .slice b8 m8 k8, .int .i64 g9] 32)).cell? ⟨w.heap.size, 8, none⟩ = some (.slice a8 n8 c8) := box_cell i3.1 rfl
    have y9 : (w2.alloc (.cells #[.int .i64 g0, .int .i64 g1, .slice b2 m2 k2, .int .i64 g3, .int .i64 g4, .bool g5, .int .i64 g6, .slice b7 m7 k7, .slice b8 m8 k8, .int .i64 g9] 32)).cell? ⟨w.heap.size, 9, none⟩ = some (.int .i64 be) := box_cell i3.1 rfl
    go_wp2_with fail
    refine (qv.out _ false HV.out (HB1.out.1.trans (s3.out.1.mono HB1.out.1.size))).mono ?_
    rintro e w4 ⟨rfl, hb4⟩
    have s4 : Hid (Below W1.heap.size W1 w4) := s3.out.1.trans (hb4.mono s3.out.1.size)
    have HW4 : Hid (Below (w2.alloc (.cells #[.int .i64 g0, .int .i64 g1, .slice b2 m2 k2, .int .i64 g3, .int .i64 g4, .bool g5, .int .i64 g6, .slice b7 m7 k7, .slice b8 m8 k8, .int .i64 g9] 32)).heap.size (w2.alloc (.cells #[.int .i64 g0, .int .i64 g1, .slice b2 m2 k2, .int .i64 g3, .int .i64 g4, .bool g5, .int .i64 g6, .slice b7 m7 k7, .slice b8 m8 k8, .int .i64 g9] 32)) w4) := hb4
    have i4 := HBX.out _ s4.out
    clear hb4 y0 y1 y2 y3 y4 y5 y6 y7 y8 y9
    have HLD : (loadVar 32 ⟨w.heap.size + 1, 0, none⟩).run Tryd.prog (w4.setRow (w.heap.size + 1) #[.int .i64 0, .int .i64 0, .slice none 0 0, .int .i64 0, .int .i64 0, .bool false, .int .i64 0, .slice none 0 0, .slice none 0 0, .int .i64 0]) = .ok (.agg #[.int .i64 0, .int .i64 0, .slice none 0 0, .int .i64 0, .int .i64 0, .bool false, .int .i64 0, .slice none 0 0, .slice none 0 0, .int .i64 0]) (w4.setRow (w.heap.size + 1) #[.int .i64 0, .int .i64 0, .slice none 0 0, .int .i64 0, .int .i64 0, .bool false, .int .i64 0, .slice none 0 0, .slice none 0 0, .int .i64 0]) := run_loadVar_row _ _ _ _ _ _ _ (setRow_heap _ _ _ _ _ _ i4.2) Tryd.underlying32 rfl (by kernel_rfl)
    have HO : Hid (Below w.heap.size w (w4.setRow (w.heap.size + 1) #[.int .i64 0, .int .i64 0, .slice none 0 0, .int .i64 0, .int .i64 0, .bool false, .int .i64 0, .slice none 0 0, .slice none 0 0, .int .i64 0])) := below_setRow (HB1.out.1.trans (s4.out.mono HB1.out.1.size)) (Nat.le_add_right _ 1) #[.int .i64 0, .int .i64 0, .slice none 0 0, .int .i64 0, .int .i64 0, .bool false, .int .i64 0, .slice none 0 0, .slice none 0 0, .int .i64 0]
    go_wp2_with (refine wpList_store_row rfl _ _ _ rfl _ _ rfl rfl _ _ i4.2 (by kernel_rfl) rfl (by simp [Value.oneCell']) ?_)
    (try simp only [Exit.inBlock, Exit.then])
    refine bodyPost_ret (by simp [results, Tryd.results12, asAddr, Act.put, HLD]; try rfl) rfl ?_
    refine ⟨_, [], by (rw [E.out.1]; try rfl), ?_, List.nodup_nil, HO.out⟩
    rw [E.out.2]
    exact own_zeroT _ _
  · have HV : Hid (vtB ((x0, x1, zs, x3, x4, x5, ()), st, ag, ps, be, ()) = true) := hv
    clear hv
    have E : Hid ((sidesB x y && vtB ((x0, x1, zs, x3, x4, x5, ()), st, ag, ps, be, ())) = true ∧ vtZ ((x0, x1, zs, x3, x4, x5, ()), st, ag, ps, be, ()) x y = ((D.1, D.2.1, D.2.2.1, D.2.2.2.1, be, ()) : VtD)) := by
      have h : (sidesB x y && vtB ((x0, x1, zs, x3, x4, x5, ()), st, ag, ps, be, ())) = true := by rw [HS.out, HV.out]; rfl
      exact ⟨h, by rw [vtZ_yes h, HDD.out]; rfl⟩
    go_enter Tryd.func12, Tryd.ntmps12
    go_wp2_with fail
    rw [← HW.out]
    refine (qn.out _ true HS.out).mono ?_
    rintro e w2 ⟨o, F, he, ho, hnd, hb⟩
    obtain ⟨b2, m2, k2, F0, b7, m7, k7, F2, b8, m8, k8, F3, hcs, _⟩ := openO_Vt ho
    rw [← HE.out.1, ← HE.out.2.1, ← HE.out.2.2.1, ← HE.out.2.2.2.1, ← HE.out.2.2.2.2.1, ← HE.out.2.2.2.2.2.1, ← HE.out.2.2.2.2.2.2] at hcs
    subst hcs
    subst he
    have s3 : Hid (Below W1.heap.size W1 (w2.alloc (.cells #[.int .i64 g0, .int .i64 g1, .slice b2 m2 k2, .int .i64 g3, .int .i64 g4, .bool g5, .int .i64 g6, .slice b7 m7 k7, .slice b8 m8 k8, .int .i64 g9] 32)) ∧ W1.heap.size ≤ w2.heap.size) := ⟨hb.alloc hb.size _, hb.size⟩
    have HOW2 : Hid (Own shVt (w2.alloc (.cells #[.int .i64 g0, .int .i64 g1, .slice b2 m2 k2, .int .i64 g3, .int .i64 g4, .bool g5, .int .i64 g6, .slice b7 m7 k7, .slice b8 m8 k8, .int .i64 g9] 32)) W1.heap.size [.int .i64 g0, .int .i64 g1, .slice b2 m2 k2, .int .i64 g3, .int .i64 g4, .bool g5, .int .i64 g6, .slice b7 m7 k7, .slice b8 m8 k8, .int .i64 g9] D F ∧ ∀ g ∈ F, g < w2.heap.size) := ⟨ho.later ((Below.refl w2.heap.size w2).alloc (Nat.le_refl _) _), fun g hg => (ho.lt g hg).2⟩
    have HND : Hid F.Nodup := hnd
    clear ho hb hnd
    have i3 := HBX.out _ s3.out.1
    have y0 : (w2.alloc (.cells #[.int .i64 g0, .int .i64 g1, .slice b2 m2 k2, .int .i64 g3, .int .i64 g4, .bool g5, .int .i64 g6, .slice b7 m7 k7, .slice b8 m8 k8, .int .i64 g9] 32)).cell? ⟨w.heap.size, 0, none⟩ = some (.int .i64 x0) := box_cell i3.1 rfl
    have y1 : (w2.alloc (.cells #[.int .i64 g0, .int .i64 g1, .slice b2 m2 k2, .int .i64 g3, .int .i64 g4, .bool g5, .int .i64 g6, .slice b7 m7 k7, .slice b8 m8 k8, .int .i64 g9] 32)).cell? ⟨w.heap.size, 1, none⟩ = some (.int .i64 x1) := box_cell i3.1 rfl
    have y2 : (w2.alloc (.cells #[.int .i64 g0, .int .i64 g1, .slice b2 m2 k2, .int .i64 g3, .int .i64 g4, .bool g5, .int .i64 g6, .slice b7 m7 k7, .slice b8 m8 k8, .int .i64 g9] 32)).cell? ⟨w.heap.size, 2, none⟩ = some (.slice a2 n2 c2) := box_cell i3.1 rfl
    have y3 : (w2.alloc (.cells #[.int .i64 g0, .int .i64 g1, .slice b2 m2 k2, .int .i64 g3, .int .i64 g4, .bool g5, .int .i64 g6, .slice b7 m7 k7, .slice b8 m8 k8, .int .i64 g9] 32)).cell? ⟨w.heap.size, 3, none⟩ = some (.int .i64 x3) := box_cell i3.1 rfl
    have y4 : (w2.alloc (.cells #[.int .i64 g0, .int .i64 g1, .slice b2 m2 k2, .int .i64 g3, .int .i64 g4, .bool g5, .int .i64 g6, .slice b7 m7 k7, .slice b8 m8 k8, .int .i64 g9] 32)).cell? ⟨w.heap.size, 4, none⟩ = some (.int .i64 x4) := box_cell i3.1 rfl
    have y5 : (w2.alloc (.cells #[.int .i64 g0, .int .i64 g1, .slice b2 m2 k2, .int .i64 g3, .int .i64 g4, .bool g5, .int .i64 g6, .slice b7 m7 k7, .slice b8 m8 k8, .int .i64 g9] 32)).cell? ⟨w.heap.size, 5, none⟩ = some (.bool x5) := box_cell i3.1 rfl
    have y6 : (w2.alloc (.cells #[.int .i64 g0, .int .i64 g1, .slice b2 m2 k2, .int .i64 g3, .int .i64 g4, .bool g5, .int .i64 g6, .slice b7 m7 k7, .slice b8 m8 k8, .int .i64 g9] 32)).cell? ⟨w.heap.size, 6, none⟩ = some (.int .i64 st) := box_cell i3.1 rfl
    have y7 : (w2.alloc (.cells #[.int .i64 g0, .int .i64 g1, .slice b2 m2 k2, .int .i64 g3, .int .i64 g4, .bool g5, .int .i64 g6, .slice b7 m7 k7, .slice b8 m8 k8, .int .i64 g9] 32)).cell? ⟨w.heap.size, 7, none⟩ = some (.slice a7 n7 c7) := box_cell i3.1 rfl
    have y8 : (w2.alloc (.cells #[.int .i64 g0, .int .i64 g1, .slice b2 m2 k2, .int .i64 g3, .int .i64 g4, .bool g5, .int .i64 g6, .slice b7 m7 k7, .slice b8 m8 k8, .int .i64 g9] 32)).cell? ⟨w.heap.size, 8, none⟩ = some (.slice a8 n8 c8) := box_cell i3.1 rfl
    have y9 : (w2.alloc (.cells #[.int .i64 g0, .int .i64 g1, .slice b2 m2 k2, .int .i64 g3, .int .i64 g4, .bool g5, .int .i64 g6, .slice b7 m7 k7, .slice b8 m8 k8, .int .i64 g9] 32)).cell? ⟨w.heap.size, 9, none⟩ = some (.int .i64 be) := box_cell i3.1 rfl
    go_wp2_with fail
    refine (qv.out _ true HV.out (HB1.out.1.trans (s3.out.1.mono HB1.out.1.size))).mono ?_
    rintro e w4 ⟨rfl, hb4⟩
    have s4 : Hid (Below W1.heap.size W1 w4) := s3.out.1.trans (hb4.mono s3.out.1.size)
    have HW4 : Hid (Below (w2.alloc (.cells #[.int .i64 g0, .int .i64 g1, .slice b2 m2 k2, .int .i64 g3, .int .i64 g4, .bool g5, .int .i64 g6, .slice b7 m7 k7, .slice b8 m8 k8, .int .i64 g9] 32)).heap.size (w2.alloc (.cells #[.int .i64 g0, .int .i64 g1, .slice b2 m2 k2, .int .i64 g3, .int .i64 g4, .bool g5, .int .i64 g6, .slice b7 m7 k7, .slice b8 m8 k8, .int .i64 g9] 32)) w4) := hb4
    have i4 := HBX.out _ s4.out
    clear hb4 y0 y1 y2 y3 y4 y5 y6 y7 y8 y9
    have j8 : w4.heap[w2.heap.size]? = some (.cells #[.int .i64 g0, .int .i64 g1, .slice b2 m2 k2, .int .i64 g3, .int .i64 g4, .bool g5, .int .i64 g6, .slice b7 m7 k7, .slice b8 m8 k8, .int .i64 g9] 32 (0, 0)) := (HW4.out.block _ (by simp)).trans (heap_alloc_new w2 _)
    have y9 : w4.cell? ⟨w.heap.size, 9, none⟩ = some (.int .i64 be) := box_cell i4.1 rfl
    have z9 : w4.cell? ⟨w2.heap.size, 9, none⟩ = some (.int .i64 g9) := box_cell j8 rfl
    have z0 : w4.cell? ⟨w2.heap.size, 0, none⟩ = some (.int .i64 g0) := box_cell j8 rfl
    have z1 : w4.cell? ⟨w2.heap.size, 1, none⟩ = some (.int .i64 g1) := box_cell j8 rfl
    have z2 : w4.cell? ⟨w2.heap.size, 2, none⟩ = some (.slice b2 m2 k2) := box_cell j8 rfl
    have z3 : w4.cell? ⟨w2.heap.size, 3, none⟩ = some (.int .i64 g3) := box_cell j8 rfl
    have z4 : w4.cell? ⟨w2.heap.size, 4, none⟩ = some (.int .i64 g4) := box_cell j8 rfl
    have z5 : w4.cell? ⟨w2.heap.size, 5, none⟩ = some (.bool g5) := box_cell j8 rfl
    have z6 : w4.cell? ⟨w2.heap.size, 6, none⟩ = some (.int .i64 g6) := box_cell j8 rfl
    have z7 : w4.cell? ⟨w2.heap.size, 7, none⟩ = some (.slice b7 m7 k7) := box_cell j8 rfl
    have z8 : w4.cell? ⟨w2.heap.size, 8, none⟩ = some (.slice b8 m8 k8) := box_cell j8 rfl
    have zf : w4.frozen? ⟨w2.heap.size, 9, none⟩ = false := box_frozen j8
    have hlt : w.heap.size + 2 ≤ w2.heap.size := by have h1 := HB1.out.2; have h2 := s3.out.2; omega
    have j9 : (w4.setCell ⟨w2.heap.size, 9, none⟩ (.int .i64 be)).heap[w2.heap.size]? = some (.cells #[.int .i64 g0, .int .i64 g1, .slice b2 m2 k2, .int .i64 g3, .int .i64 g4, .bool g5, .int .i64 g6, .slice b7 m7 k7, .slice b8 m8 k8, .int .i64 be] 32 (0, 0)) := by have := box_set (j := 9) (.int .i64 be) j8; simpa using this
    have jr : (w4.setCell ⟨w2.heap.size, 9, none⟩ (.int .i64 be)).heap[w.heap.size + 1]? = some (.cells #[.int .i64 0, .int .i64 0, .slice none 0 0, .int .i64 0, .int .i64 0, .bool false, .int .i64 0, .slice none 0 0, .slice none 0 0, .int .i64 0] 32 (0, 0)) := (box_other _ (by omega)).trans i4.2
    have u0 : (w4.setCell ⟨w2.heap.size, 9, none⟩ (.int .i64 be)).cell? ⟨w2.heap.size, 0, none⟩ = some (.int .i64 g0) := box_cell j9 rfl
    have u1 : (w4.setCell ⟨w2.heap.size, 9, none⟩ (.int .i64 be)).cell? ⟨w2.heap.size, 1, none⟩ = some (.int .i64 g1) := box_cell j9 rfl
    have u2 : (w4.setCell ⟨w2.heap.size, 9, none⟩ (.int .i64 be)).cell? ⟨w2.heap.size, 2, none⟩ = some (.slice b2 m2 k2) := box_cell j9 rfl
    have u3 : (w4.setCell ⟨w2.heap.size, 9, none⟩ (.int .i64 be)).cell? ⟨w2.heap.size, 3, none⟩ = some (.int .i64 g3) := box_cell j9 rfl
    have u4 : (w4.setCell ⟨w2.heap.size, 9, none⟩ (.int .i64 be)).cell? ⟨w2.heap.size, 4, none⟩ = some (.int .i64 g4) := box_cell j9 rfl
    have u5 : (w4.setCell ⟨w2.heap.size, 9, none⟩ (.int .i64 be)).cell? ⟨w2.heap.size, 5, none⟩ = some (.bool g5) := box_cell j9 rfl
    have u6 : (w4.setCell ⟨w2.heap.size, 9, none⟩ (.int .i64 be)).cell? ⟨w2.heap.size, 6, none⟩ = some (.int .i64 g6) := box_cell j9 rfl
    have u7 : (w4.setCell ⟨w2.heap.size, 9, none⟩ (.int .i64 be)).cell? ⟨w2.heap.size, 7, none⟩ = some (.slice b7 m7 k7) := box_cell j9 rfl
    have u8 : (w4.setCell ⟨w2.heap.size, 9, none⟩ (.int .i64 be)).cell? ⟨w2.heap.size, 8, none⟩ = some (.slice b8 m8 k8) := box_cell j9 rfl
    have u9 : (w4.setCell ⟨w2.heap.size, 9, none⟩ (.int .i64 be)).cell? ⟨w2.heap.size, 9, none⟩ = some (.int .i64 be) := box_cell j9 rfl
    have HLD : (loadVar 32 ⟨w.heap.size + 1, 0, none⟩).run Tryd.prog ((w4.setCell ⟨w2.heap.size, 9, none⟩ (.int .i64 be)).setRow (w.heap.size + 1) #[.int .i64 g0, .int .i64 g1, .slice b2 m2 k2, .int .i64 g3, .int .i64 g4, .bool g5, .int .i64 g6, .slice b7 m7 k7, .slice b8 m8 k8, .int .i64 be]) = .ok (.agg #[.int .i64 g0, .int .i64 g1, .slice b2 m2 k2, .int .i64 g3, .int .i64 g4, .bool g5, .int .i64 g6, .slice b7 m7 k7, .slice b8 m8 k8, .int .i64 be]) ((w4.setCell ⟨w2.heap.size, 9, none⟩ (.int .i64 be)).setRow (w.heap.size + 1) #[.int .i64 g0, .int .i64 g1, .slice b2 m2 k2, .int .i64 g3, .int .i64 g4, .bool g5, .int .i64 g6, .slice b7 m7 k7, .slice b8 m8 k8, .int .i64 be]) := run_loadVar_row _ _ _ _ _ _ _ (setRow_heap _ _ _ _ _ _ jr) Tryd.underlying32 rfl (by kernel_rfl)
    have HO : Hid (Below w.heap.size w ((w4.setCell ⟨w2.heap.size, 9, none⟩ (.int .i64 be)).setRow (w.heap.size + 1) #[.int .i64 g0, .int .i64 g1, .slice b2 m2 k2, .int .i64 g3, .int .i64 g4, .bool g5, .int .i64 g6, .slice b7 m7 k7, .slice b8 m8 k8, .int .i64 be])) := below_setRow ((HB1.out.1.trans (s4.out.mono HB1.out.1.size)).setCell (p := ⟨w2.heap.size, 9, none⟩) (by show w.heap.size ≤ w2.heap.size; omega) _) (Nat.le_add_right _ 1) #[.int .i64 g0, .int .i64 g1, .slice b2 m2 k2, .int .i64 g3, .int .i64 g4, .bool g5, .int .i64 g6, .slice b7 m7 k7, .slice b8 m8 k8, .int .i64 be]
    have HOW : Hid (Own shVt ((w4.setCell ⟨w2.heap.size, 9, none⟩ (.int .i64 be)).setRow (w.heap.size + 1) #[.int .i64 g0, .int .i64 g1, .slice b2 m2 k2, .int .i64 g3, .int .i64 g4, .bool g5, .int .i64 g6, .slice b7 m7 k7, .slice b8 m8 k8, .int .i64 be]) w.heap.size [.int .i64 g0, .int .i64 g1, .slice b2 m2 k2, .int .i64 g3, .int .i64 g4, .bool g5, .int .i64 g6, .slice b7 m7 k7, .slice b8 m8 k8, .int .i64 be] ((D.1, D.2.1, D.2.2.1, D.2.2.2.1, be, ()) : VtD) F) := by
      have h1 := HOW2.out.1.later HW4.out
      have h2 : Own shVt ((w4.setCell ⟨w2.heap.size, 9, none⟩ (.int .i64 be)).setRow (w.heap.size + 1) #[.int .i64 g0, .int .i64 g1, .slice b2 m2 k2, .int .i64 g3, .int .i64 g4, .bool g5, .int .i64 g6, .slice b7 m7 k7, .slice b8 m8 k8, .int .i64 be]) W1.heap.size [.int .i64 g0, .int .i64 g1, .slice b2 m2 k2, .int .i64 g3, .int .i64 g4, .bool g5, .int .i64 g6, .slice b7 m7 k7, .slice b8 m8 k8, .int .i64 g9] D F := h1.keep fun g hg => by
        have k1 := HOW2.out.2 g hg
        have k2 := (HOW2.out.1.lt g hg).1
        have k3 := HB1.out.2
        rw [setRow_other _ _ g _ (by omega)]
        exact box_other _ (by omega)
      exact own_bells (h2.base HB1.out.1.size)
    go_wp2_with (refine wpList_store_row rfl _ _ _ rfl _ _ rfl rfl _ _ jr (by kernel_rfl) rfl (by simp [Value.oneCell']) ?_)
    (try simp only [Exit.inBlock, Exit.then])
    refine bodyPost_ret (by simp [results, Tryd.results12, asAddr, Act.put, HLD]; try rfl) rfl ?_
    refine ⟨_, F, by (rw [E.out.1]; try rfl), ?_, HND.out, HO.out⟩
    rw [E.out.2]
    exact HOW.out

set_option maxRecDepth 100000 in
set_option maxHeartbeats 8000000 in
theorem specVtSize_any (x0 x1 x3 x4 st be : Int) (x5 : Bool) (a2 a7 a8 : Option Addr) (n2 c2 n7 c7 n8 c8 : Nat) (zs ag ps : List Int) (x y : Int) (w : World) (hg : Reads (.sl .int) w [.slice a2 n2 c2] zs) (ha : Reads (.sl .int) w [.slice a7 n7 c7] ag) (hp : Reads (.sl .u8) w [.slice a8 n8 c8] ps) (hn : n8 ≤ 2097152) :
    Calls Tryd.prog 11 #[.agg #[.int .i64 x0, .int .i64 x1, .slice a2 n2 c2, .int .i64 x3, .int .i64 x4, .bool x5, .int .i64 st, .slice a7 n7 c7, .slice a8 n8 c8, .int .i64 be], .int .i64 x, .int .i64 y] w fun e w' => ∃ o F, e = .returned (.tuple #[.agg o.toArray, .bool (sidesB x y && vtB ((x0, x1, zs, x3, x4, x5, ()), st, ag, ps, be, ()))]) ∧ Own shVt w' w.heap.size o (vtZ ((x0, x1, zs, x3, x4, x5, ()), st, ag, ps, be, ()) x y) F ∧ F.Nodup ∧ Below w.heap.size w w' := by
  obtain ⟨D, hD⟩ : ∃ D : VtD, D = vtA (newG x y) := ⟨_, rfl⟩
  have qn : Hid (∀ w' b, sidesB x y = b → Calls Tryd.prog 31 #[.int .i64 x, .int .i64 y] w' fun e w'' => ∃ o F, e = .returned (.tuple #[.agg o.toArray, .bool b]) ∧ Own shVt w'' w'.heap.size o D F ∧ F.Nodup ∧ Below w'.heap.size w' w'') := fun w' b hb => by rw [← hb, hD]; exact specVtNew_any x y w'
  have qv : Hid (∀ w' b, vtB ((x0, x1, zs, x3, x4, x5, ()), st, ag, ps, be, ()) = b → Below w.heap.size w w' → Calls Tryd.prog 7 #[.agg #[.int .i64 x0, .int .i64 x1, .slice a2 n2 c2, .int .i64 x3, .int .i64 x4, .bool x5, .int .i64 st, .slice a7 n7 c7, .slice a8 n8 c8, .int .i64 be]] w' fun e w'' => e = .returned (.bool b) ∧ Below w'.heap.size w' w'') := fun w' b hb hw => by
    rw [← hb]; exact specVtok_any x0 x1 x3 x4 st be x5 a2 a7 a8 n2 c2 n7 c7 n8 c8 zs ag ps w' (hg.later hw) (ha.later hw) (hp.later hw) hn
  obtain ⟨g0, e0⟩ : ∃ x : Int, x = D.1.1 := ⟨_, rfl⟩
  obtain ⟨g1, e1⟩ : ∃ x : Int, x = D.1.2.1 := ⟨_, rfl⟩
  obtain ⟨g3, e3⟩ : ∃ x : Int, x = D.1.2.2.2.1 := ⟨_, rfl⟩
  obtain ⟨g4, e4⟩ : ∃ x : Int, x = D.1.2.2.2.2.1 := ⟨_, rfl⟩
  obtain ⟨g5, e5⟩ : ∃ x : Bool, x = D.1.2.2.2.2.2.1 := ⟨_, rfl⟩
  obtain ⟨g6, e6⟩ : ∃ x : Int, x = D.2.1 := ⟨_, rfl⟩
  obtain ⟨g9, e9⟩ : ∃ x : Int, x = D.2.2.2.2.1 := ⟨_, rfl⟩
  have HE : Hid (g0 = D.1.1 ∧ g1 = D.1.2.1 ∧ g3 = D.1.2.2.2.1 ∧ g4 = D.1.2.2.2.2.1 ∧ g5 = D.1.2.2.2.2.2.1 ∧ g6 = D.2.1 ∧ g9 = D.2.2.2.2.1) := ⟨e0, e1, e3, e4, e5, e6, e9⟩
  have HDD : Hid (D = vtA (newG x y)) := hD
  clear hg ha hp  hD e0 e1 e3 e4 e5 e6 e9
  obtain ⟨W1, hW1⟩ : ∃ W, W = (w.alloc (.cells #[.int .i64 x0, .int .i64 x1, .slice a2 n2 c2, .int .i64 x3, .int .i64 x4, .bool x5, .int .i64 st, .slice a7 n7 c7, .slice a8 n8 c8, .int .i64 be] 32)).alloc (.cells #[.int .i64 0, .int .i64 0, .slice none 0 0, .int .i64 0, .int .i64 0, .bool false, .int .i64 0, .slice none 0 0, .slice none 0 0, .int .i64 0] 32) := ⟨_, rfl⟩
  have bW1 : Below w.heap.size w W1 := by rw [hW1]; exact ((Below.refl _ _).alloc (Nat.le_refl _) _).alloc (by simp) _
  have zW1 : W1.heap.size = w.heap.size + 2 := by rw [hW1]; simp
  have hA1 : W1.heap[w.heap.size]? = some (.cells #[.int .i64 x0, .int .i64 x1, .slice a2 n2 c2, .int .i64 x3, .int .i64 x4, .bool x5, .int .i64 st, .slice a7 n7 c7, .slice a8 n8 c8, .int .i64 be] 32 (0, 0)) := by rw [hW1, heap_alloc_old _ _ (by simp)]; exact heap_alloc_new w _
  have hZ1 : W1.heap[w.heap.size + 1]? = some (.cells #[.int .i64 0, .int .i64 0, .slice none 0 0, .int .i64 0, .int .i64 0, .bool false, .int .i64 0, .slice none 0 0, .slice none 0 0, .int .i64 0] 32 (0, 0)) := by rw [hW1]; have := heap_alloc_new (w.alloc (.cells #[.int .i64 x0, .int .i64 x1, .slice a2 n2 c2, .int .i64 x3, .int .i64 x4, .bool x5, .int .i64 st, .slice a7 n7 c7, .slice a8 n8 c8, .int .i64 be] 32)) (.cells #[.int .i64 0, .int .i64 0, .slice none 0 0, .int .i64 0, .int .i64 0, .bool false, .int .i64 0, .slice none 0 0, .slice none 0 0, .int .i64 0] 32); simpa using this
  have HBX : Hid (∀ w', Below W1.heap.size W1 w' → w'.heap[w.heap.size]? = some (.cells #[.int .i64 x0, .int .i64 x1, .slice a2 n2 c2, .int .i64 x3, .int .i64 x4, .bool x5, .int .i64 st, .slice a7 n7 c7, .slice a8 n8 c8, .int .i64 be] 32 (0, 0)) ∧ w'.heap[w.heap.size + 1]? = some (.cells #[.int .i64 0, .int .i64 0, .slice none 0 0, .int .i64 0, .int .i64 0, .bool false, .int .i64 0, .slice none 0 0, .slice none 0 0, .int .i64 0] 32 (0, 0))) := fun w' h => ⟨(h.block _ (by omega)).trans hA1, (h.block _ (by omega)).trans hZ1⟩
  have HB1 : Hid (Below w.heap.size w W1 ∧ W1.heap.size = w.heap.size + 2) := ⟨bW1, zW1⟩
  have HW : Hid (W1 = _) := hW1
  clear hW1 hA1 hZ1 bW1 zW1
  by_cases hv : vtB ((x0, x1, zs, x3, x4, x5, ()), st, ag, ps, be, ()) = true
  rotate_left
  · have HV : Hid (vtB ((x0, x1, zs, x3, x4, x5, ()), st, ag, ps, be, ()) = false) := by show _ = _; simpa using hv
    clear hv
    have E : Hid ((sidesB x y && vtB ((x0, x1, zs, x3, x4, x5, ()), st, ag, ps, be, ())) = false ∧ vtZ ((x0, x1, zs, x3, x4, x5, ()), st, ag, ps, be, ()) x y = zeroT) := by
      have h : (sidesB x y && vtB ((x0, x1, zs, x3, x4, x5, ()), st, ag, ps, be, ())) = false := by rw [HV.out, Bool.and_false]
      exact ⟨h, vtZ_no h⟩
    obtain ⟨bs, hbs⟩ : ∃ b, b = sidesB x y := ⟨_, rfl⟩
    have HS : Hid (sidesB x y = bs) := hbs.symm
    clear hbs
    go_enter Tryd.func11, Tryd.ntmps11
    go_wp2_with fail
    rw [← HW.out]
    refine (qn.out _ bs HS.out).mono ?_
    rintro e w2 ⟨o, F, he, ho, hnd, hb⟩
    obtain ⟨b2, m2, k2, F0, b7, m7, k7, F2, b8, m8, k8, F3, hcs, _⟩ := openO_Vt ho
    rw [← HE.out.1, ← HE.out.2.1, ← HE.out.2.2.1, ← HE.out.2.2.2.1, ← HE.out.2.2.2.2.1, ← HE.out.2.2.2.2.2.1, ← HE.out.2.2.2.2.2.2] at hcs
    subst hcs
    subst he
    have s3 : Hid (Below W1.heap.size W1 (w2.alloc (.cells #[.int .i64 g0, .int .i64 g1, .slice b2 m2 k2, .int .i64 g3, .int .i64 g4, .bool g5, .int .i64 g6, .slice b7 m7 k7, .slice b8 m8 k8, .int .i64 g9] 32)) ∧ W1.heap.size ≤ w2.heap.size) := ⟨hb.alloc hb.size _, hb.size⟩
    have HOW2 : Hid (Own shVt (w2.alloc (.cells #[.int .i64 g0, .int .i64 g1, .slice b2 m2 k2, .int .i64 g3, .int .i64 g4, .bool g5, .int .i64 g6, .slice b7 m7 k7, .slice b8 m8 k8, .int .i64 g9] 32)) W1.heap.size [.int .i64 g0, .int .i64 g1, .slice b2 m2 k2, .int .i64 g3, .int .i64 g4, .bool g5, .int .i64 g6, .slice b7 m7 k7, .slice b8 m8 k8, .int .i64 g9] D F ∧ ∀ g ∈ F, g < w2.heap.size) := ⟨ho.later ((Below.refl w2.heap.size w2).alloc (Nat.le_refl _) _), fun g hg => (ho.lt g hg).2⟩
    have HND : Hid F.Nodup := hnd
    clear ho hb hnd
    have i3 := HBX.out _ s3.out.1
    have y0 : (w2.alloc (.cells #[.int .i64 g0, .int .i64 g1, .slice b2 m2 k2, .int .i64 g3, .int .i64 g4, .bool g5, .int .i64 g6, .slice b7 m7 k7, .slice b8 m8 k8, .int .i64 g9] 32)).cell? ⟨w.heap.size, 0, none⟩ = some (.int .i64 x0) := box_cell i3.1 rfl
    have y1 : (w2.alloc (.cells #[.int .i64 g0, .int .i64 g1, .slice b2 m2 k2, .int .i64 g3, .int .i64 g4, .bool g5, .int .i64 g6, .slice b7 m7 k7, .slice b8 m8 k8, .int .i64 g9] 32)).cell? ⟨w.heap.size, 1, none⟩ = some (.int .i64 x1) := box_cell i3.1 rfl
    have y2 : (w2.alloc (.cells #[.int .i64 g0, .int .i64 g1, .slice b2 m2 k2, .int .i64 g3, .int .i64 g4, .bool g5, .int .i64 g6, .slice b7 m7 k7, .slice b8 m8 k8, .int .i64 g9] 32)).cell? ⟨w.heap.size, 2, none⟩ = some (.slice a2 n2 c2) := box_cell i3.1 rfl
    have y3 : (w2.alloc (.cells #[.int .i64 g0, .int .i64 g1, .slice b2 m2 k2, .int .i64 g3, .int .i64 g4, .bool g5, .int .i64 g6, .slice b7 m7 k7, .slice b8 m8 k8, .int .i64 g9] 32)).cell? ⟨w.heap.size, 3, none⟩ = some (.int .i64 x3) := box_cell i3.1 rfl
    have y4 : (w2.alloc (.cells #[.int .i64 g0, .int .i64 g1, .slice b2 m2 k2, .int .i64 g3, .int .i64 g4, .bool g5, .int .i64 g6, .slice b7 m7 k7, .slice b8 m8 k8, .int .i64 g9] 32)).cell? ⟨w.heap.size, 4, none⟩ = some (.int .i64 x4) := box_cell i3.1 rfl
    have y5 : (w2.alloc (.cells #[.int .i64 g0, .int .i64 g1, .slice b2 m2 k2, .int .i64 g3, .int .i64 g4, .bool g5, .int .i64 g6, .slice b7 m7 k7, .slice b8 m8 k8, .int .i64 g9] 32)).cell? ⟨w.heap.size, 5, none⟩ = some (.bool x5) := box_cell i3.1 rfl
    have y6 : (w2.alloc (.cells #[.int .i64 g0, .int .i64 g1, .slice b2 m2 k2, .int .i64 g3, .int .i64 g4, .bool g5, .int .i64 g6, .slice b7 m7 k7, .slice b8 m8 k8, .int .i64 g9] 32)).cell? ⟨w.heap.size, 6, none⟩ = some (.int .i64 st) := box_cell i3.1 rfl
    have y7 : (w2.alloc (.cells #[.int .i64 g0, .int .i64 g1, .slice b2 m2 k2, .int .i64 g3, .int .i64 g4, .bool g5, .int .i64 g6, .slice b7 m7 k7, .slice b8 m8 k8, .int .i64 g9] 32)).cell? ⟨w.heap.size, 7, none⟩ = some (.slice a7 n7 c7) := box_cell i3.1 rfl
    have y8 : (w2.alloc (.cells #[.int .i64 g0, .int .i64 g1, .slice b2 m2 k2, .int .i64 g3, .int .i64 g4, .bool g5, .int .i64 g6, .slice b7 m7 k7, .slice b8 m8 k8, .int .i64 g9] 32)).cell? ⟨w.heap.size, 8, none⟩ = some (.slice a8 n8 c8) := box_cell i3.1 rfl
    have y9 : (w2.alloc (.cells #[.int .i64 g0, .int .i64 g1, .slice b2 m2 k2, .int .i64 g3, .int .i64 g4, .bool g5, .int .i64 g6, .slice b7 m7 k7, .slice b8 m8 k8, .int .i64 g9] 32)).cell? ⟨w.heap.size, 9, none⟩ = some (.int .i64 be) := box_cell i3.1 rfl
    go_wp2_with fail
    refine (qv.out _ false HV.out (HB1.out.1.trans (s3.out.1.mono HB1.out.1.size))).mono ?_
    rintro e w4 ⟨rfl, hb4⟩
    have s4 : Hid (Below W1.heap.size W1 w4) := s3.out.1.trans (hb4.mono s3.out.1.size)
    have HW4 : Hid (Below (w2.alloc (.cells #[.int .i64 g0, .int .i64 g1, .slice b2 m2 k2, .int .i64 g3, .int .i64 g4, .bool g5, .int .i64 g6, .slice b7 m7 k7, .slice b8 m8 k8, .int .i64 g9] 32)).heap.size (w2.alloc (.cells #[.int .i64 g0, .int .i64 g1, .slice b2 m2 k2, .int .i64 g3, .int .i64 g4, .bool g5, .int .i64 g6, .slice b7 m7 k7, .slice b8 m8 k8, .int .i64 g9] 32)) w4) := hb4
    have i4 := HBX.out _ s4.out
    clear hb4 y0 y1 y2 y3 y4 y5 y6 y7 y8 y9
    have HLD : (loadVar 32 ⟨w.heap.size + 1, 0, none⟩).run Tryd.prog (w4.setRow (w.heap.size + 1) #[.int .i64 0, .int .i64 0, .slice none 0 0, .int .i64 0, .int .i64 0, .bool false, .int .i64 0, .slice none 0 0, .slice none 0 0, .int .i64 0]) = .ok (.agg #[.int .i64 0, .int .i64 0, .slice none 0 0, .int .i64 0, .int .i64 0, .bool false, .int .i64 0, .slice none 0 0, .slice none 0 0, .int .i64 0]) (w4.setRow (w.heap.size + 1) #[.int .i64 0, .int .i64 0, .slice none 0 0, .int .i64 0, .int .i64 0, .bool false, .int .i64 0, .slice none 0 0, .slice none 0 0, .int .i64 0]) := run_loadVar_row _ _ _ _ _ _ _ (setRow_heap _ _ _ _ _ _ i4.2) Tryd.underlying32 rfl (by kernel_rfl)
    have HO : Hid (Below w.heap.size w (w4.setRow (w.heap.size + 1) #[.int .i64 0, .int .i64 0, .slice none 0 0, .int .i64 0, .int .i64 0, .bool false, .int .i64 0, .slice none 0 0, .slice none 0 0, .int .i64 0])) := below_setRow (HB1.out.1.trans (s4.out.mono HB1.out.1.size)) (Nat.le_add_right _ 1) #[.int .i64 0, .int .i64 0, .slice none 0 0, .int .i64 0, .int .i64 0, .bool false, .int .i64 0, .slice none 0 0, .slice none 0 0, .int .i64 0]
    go_wp2_with (refine wpList_store_row rfl _ _ _ rfl _ _ rfl rfl _ _ i4.2 (by kernel_rfl) rfl (by simp [Value.oneCell']) ?_)
    (try simp only [Exit.inBlock, Exit.then])
    refine bodyPost_ret (by simp [results, Tryd.results11, asAddr, Act.put, HLD]; try rfl) rfl ?_
    refine ⟨_, [], by (rw [E.out.1]; try rfl), ?_, List.nodup_nil, HO.out⟩
    rw [E.out.2]
    exact own_zeroT _ _
  have HV : Hid (vtB ((x0, x1, zs, x3, x4, x5, ()), st, ag, ps, be, ()) = true) := hv
  clear hv
  by_cases hs : sidesB x y = true
  rotate_left
  · have HS : Hid (sidesB x y = false) := by show _ = _; simpa using hs
    clear hs
    have E : Hid ((sidesB x y && vtB ((x0, x1, zs, x3, x4, x5, ()), st, ag, ps, be, ())) = false ∧ vtZ ((x0, x1, zs, x3, x4, x5, ()), st, ag, ps, be, ()) x y = zeroT) := by
      have h : (sidesB x y && vtB ((x0, x1, zs, x3, x4, x5, ()), st, ag, ps, be, ())) = false := by rw [HS.out]; rfl
      exact ⟨h, vtZ_no h⟩
    go_enter Tryd.func11, Tryd.ntmps11
    go_wp2_with fail
    rw [← HW.out]
    refine (qn.out _ false HS.out).mono ?_
    rintro e w2 ⟨o, F, he, ho, hnd, hb⟩
    obtain ⟨b2, m2, k2, F0, b7, m7, k7, F2, b8, m8, k8, F3, hcs, _⟩ := openO_Vt ho
    rw [← HE.out.1, ← HE.out.2.1, ← HE.out.2.2.1, ← HE.out.2.2.2.1, ← HE.out.2.2.2.2.1, ← HE.out.2.2.2.2.2.1, ← HE.out.2.2.2.2.2.2] at hcs
    subst hcs
    subst he
    have s3 : Hid (Below W1.heap.size W1 (w2.alloc (.cells #[.int .i64 g0, .int .i64 g1, .slice b2 m2 k2, .int .i64 g3, .int .i64 g4, .bool g5, .int .i64 g6, .slice b7 m7 k7, .slice b8 m8 k8, .int .i64 g9] 32)) ∧ W1.heap.size ≤ w2.heap.size) := ⟨hb.alloc hb.size _, hb.size⟩
    have HOW2 : Hid (Own shVt (w2.alloc (.cells #[.int .i64 g0, .int .i64 g1, .slice b2 m2 k2, .int .i64 g3, .int .i64 g4, .bool g5, .int .i64 g6, .slice b7 m7 k7, .slice b8 m8 k8, .int .i64 g9] 32)) W1.heap.size [.int .i64 g0, .int .i64 g1, .slice b2 m2 k2, .int .i64 g3, .int .i64 g4, .bool g5, .int .i64 g6, .slice b7 m7 k7, .slice b8 m8 k8, .int .i64 g9] D F ∧ ∀ g ∈ F, g < w2.heap.size) := ⟨ho.later ((Below.refl w2.heap.size w2).alloc (Nat.le_refl _) _), fun g hg => (ho.lt g hg).2⟩
    have HND : Hid F.Nodup := hnd
    clear ho hb hnd
    have i3 := HBX.out _ s3.out.1
    have y0 : (w2.alloc (.cells #[.int .i64 g0, .int .i64 g1, .slice b2 m2 k2, .int .i64 g3, .int .i64 g4, .bool g5, .int .i64 g6, .slice b7 m7 k7, .slice b8 m8 k8, .int .i64 g9] 32)).cell? ⟨w.heap.size, 0, none⟩ = some (.int .i64 x0) := box_cell i3.1 rfl
    have y1 : (w2.alloc (.cells #[.int .i64 g0, .int .i64 g1, .slice b2 m2 k2, .int .i64 g3, .int .i64 g4, .bool g5, .int .i64 g6, .slice b7 m7 k7, .slice b8 m8 k8, .int .i64 g9] 32)).cell? ⟨w.heap.size, 1, none⟩ = some (.int .i64 x1) := box_cell i3.1 rfl
    have y2 : (w2.alloc (.cells #[.int .i64 g0, .int .i64 g1, .slice b2 m2 k2, .int .i64 g3, .int .i64 g4, .bool g5, .int .i64 g6, .slice b7 m7 k7, .slice b8 m8 k8, .int .i64 g9] 32)).cell? ⟨w.heap.size, 2, none⟩ = some (.slice a2 n2 c2) := box_cell i3.1 rfl
    have y3 : (w2.alloc (.cells #[.int .i64 g0, .int .i64 g1, .slice b2 m2 k2, .int .i64 g3, .int .i64 g4, .bool g5, .int .i64 g6, .slice b7 m7 k7, .slice b8 m8 k8, .int .i64 g9] 32)).cell? ⟨w.heap.size, 3, none⟩ = some (.int .i64 x3) := box_cell i3.1 rfl
    have y4 : (w2.alloc (.cells #[.int .i64 g0, .int .i64 g1, .slice b2 m2 k2, .int .i64 g3, .int .i64 g4, .bool g5, .int .i64 g6, .slice b7 m7 k7, .slice b8 m8 k8, .int .i64 g9] 32)).cell? ⟨w.heap.size, 4, none⟩ = some (.int .i64 x4) := box_cell i3.1 rfl
    have y5 : (w2.alloc (.cells #[.int .i64 g0, .int .i64 g1, .slice b2 m2 k2, .int .i64 g3, .int .i64 g4, .bool g5, .int .i64 g6, .slice b7 m7 k7, .slice b8 m8 k8, .int .i64 g9] 32)).cell? ⟨w.heap.size, 5, none⟩ = some (.bool x5) := box_cell i3.1 rfl
    have y6 : (w2.alloc (.cells #[.int .i64 g0, .int .i64 g1, .slice b2 m2 k2, .int .i64 g3, .int .i64 g4, .bool g5, .int .i64 g6, .slice b7 m7 k7, .slice b8 m8 k8, .int .i64 g9] 32)).cell? ⟨w.heap.size, 6, none⟩ = some (.int .i64 st) := box_cell i3.1 rfl
    have y7 : (w2.alloc (.cells #[.int .i64 g0, .int .i64 g1, .slice b2 m2 k2, .int .i64 g3, .int .i64 g4, .bool g5, .int .i64 g6, .slice b7 m7 k7, .slice b8 m8 k8, .int .i64 g9] 32)).cell? ⟨w.heap.size, 7, none⟩ = some (.slice a7 n7 c7) := box_cell i3.1 rfl
    have y8 : (w2.alloc (.cells #[.int .i64 g0, .int .i64 g1, .slice b2 m2 k2, .int .i64 g3, .int .i64 g4, .bool g5, .int .i64 g6, .slice b7 m7 k7, .slice b8 m8 k8, .int .i64 g9] 32)).cell? ⟨w.heap.size, 8, none⟩ = some (.slice a8 n8 c8) := box_cell i3.1 rfl
    have y9 : (w2.alloc (.cells #[.int .i64 g0, .int .i64 g1, .slice b2 m2 k2, .int .i64 g3, .int .i64 g4, .bool g5, .int .i64 g6, .slice b7 m7 k7, .slice b8 m8 k8, .int .i64 g9] 32)).cell? ⟨w.heap.size, 9, none⟩ = some (.int .i64 be) := box_cell i3.1 rfl
    go_wp2_with fail
    refine (qv.out _ true HV.out (HB1.out.1.trans (s3.out.1.mono HB1.out.1.size))).mono ?_
    rintro e w4 ⟨rfl, hb4⟩
    have s4 : Hid (Below W1.heap.size W1 w4) := s3.out.1.trans (hb4.mono s3.out.1.size)
    have HW4 : Hid (Below (w2.alloc (.cells #[.int .i64 g0, .int .i64 g1, .slice b2 m2 k2, .int .i64 g3, .int .i64 g4, .bool g5, .int .i64 g6, .slice b7 m7 k7, .slice b8 m8 k8, .int .i64 g9] 32)).heap.size (w2.alloc (.cells #[.int .i64 g0, .int .i64 g1, .slice b2 m2 k2, .int .i64 g3, .int .i64 g4, .bool g5, .int .i64 g6, .slice b7 m7 k7, .slice b8 m8 k8, .int .i64 g9] 32)) w4) := hb4
    have i4 := HBX.out _ s4.out
    clear hb4 y0 y1 y2 y3 y4 y5 y6 y7 y8 y9
    have HLD : (loadVar 32 ⟨w.heap.size + 1, 0, none⟩).run Tryd.prog (w4.setRow (w.heap.size + 1) #[.int .i64 0, .int .i64 0, .slice none 0 0, .int .i64 0, .int .i64 0, .bool false, .int .i64 0, .slice none 0 0, .slice none 0 0, .int .i64 0]) = .ok (.agg #[.int .i64 0, .int .i64 0, .slice none 0 0, .int .i64 0, .int .i64 0, .bool false, .int .i64 0, .slice none 0 0, .slice none 0 0, .int .i64 0]) (w4.setRow (w.heap.size + 1) #[.int .i64 0, .int .i64 0, .slice none 0 0, .int .i64 0, .int .i64 0, .bool false, .int .i64 0, .slice none 0 0, .slice none 0 0, .int .i64 0]) := run_loadVar_row _ _ _ _ _ _ _ (setRow_heap _ _ _ _ _ _ i4.2) Tryd.underlying32 rfl (by kernel_rfl)
    have HO : Hid (Below w.heap.size w (w4.setRow (w.heap.size + 1) #[.int .i64 0, .int .i64 0, .slice none 0 0, .int .i64 0, .int .i64 0, .bool false, .int .i64 0, .slice none 0 0, .slice none 0 0, .int .i64 0])) := below_setRow (HB1.out.1.trans (s4.out.mono HB1.out.1.size)) (Nat.le_add_right _ 1) #[.int .i64 0, .int .i64 0, .slice none 0 0, .int .i64 0, .int .i64 0, .bool false, .int .i64 0, .slice none 0 0, .slice none 0 0, .int .i64 0]
    go_wp2_with (refine wpList_store_row rfl _ _ _ rfl _ _ rfl rfl _ _ i4.2 (by kernel_rfl) rfl (by simp [Value.oneCell']) ?_)
    (try simp only [Exit.inBlock, Exit.then])
    refine bodyPost_ret (by simp [results, Tryd.results11, asAddr, Act.put, HLD]; try rfl) rfl ?_
    refine ⟨_, [], by (rw [E.out.1]; try rfl), ?_, List.nodup_nil, HO.out⟩
    rw [E.out.2]
    exact own_zeroT _ _
  · have HS : Hid (sidesB x y = true) := hs
    clear hs
    have E : Hid ((sidesB x y && vtB ((x0, x1, zs, x3, x4, x5, ()), st, ag, ps, be, ())) = true ∧ vtZ ((x0, x1, zs, x3, x4, x5, ()), st, ag, ps, be, ()) x y = ((D.1, D.2.1, D.2.2.1, D.2.2.2.1, be, ()) : VtD)) := by
      have h : (sidesB x y && vtB ((x0, x1, zs, x3, x4, x5, ()), st, ag, ps, be, ())) = true := by rw [HS.out, HV.out]; rfl
      exact ⟨h, by rw [vtZ_yes h, HDD.out]; rfl⟩
    go_enter Tryd.func11, Tryd.ntmps11
    go_wp2_with fail
    rw [← HW.out]
    refine (qn.out _ true HS.out).mono ?_
    rintro e w2 ⟨o, F, he, ho, hnd, hb⟩
    obtain ⟨b2, m2, k2, F0, b7, m7, k7, F2, b8, m8, k8, F3, hcs, _⟩ := openO_Vt ho
    rw [← HE.out.1, ← HE.out.2.1, ← HE.out.2.2.1, ← HE.out.2.2.2.1, ← HE.out.2.2.2.2.1, ← HE.out.2.2.2.2.2.1, ← HE.out.2.2.2.2.2.2] at hcs
    subst hcs
    subst he
    have s3 : Hid (Below W1.heap.size W1 (w2.alloc (.cells #[.int .i64 g0, .int .i64 g1, .slice b2 m2 k2, .int .i64 g3, .int .i64 g4, .bool g5, .int .i64 g6, .slice b7 m7 k7, .slice b8 m8 k8, .int .i64 g9] 32)) ∧ W1.heap.size ≤ w2.heap.size) := ⟨hb.alloc hb.size _, hb.size⟩
    have HOW2 : Hid (Own shVt (w2.alloc (.cells #[.int .i64 g0, .int .i64 g1, .slice b2 m2 k2, .int .i64 g3, .int .i64 g4, .bool g5, .int .i64 g6, .slice b7 m7 k7, .slice b8 m8 k8, .int .i64 g9] 32)) W1.heap.size [.int .i64 g0, .int .i64 g1, .slice b2 m2 k2, .int .i64 g3, .int .i64 g4, .bool g5, .int .i64 g6, .slice b7 m7 k7, .slice b8 m8 k8, .int .i64 g9] D F ∧ ∀ g ∈ F, g < w2.heap.size) := ⟨ho.later ((Below.refl w2.heap.size w2).alloc (Nat.le_refl _) _), fun g hg => (ho.lt g hg).2⟩
    have HND : Hid F.Nodup := hnd
    clear ho hb hnd
    have i3 := HBX.out _ s3.out.1
    have y0 : (w2.alloc (.cells #[.int .i64 g0, .int .i64 g1, .slice b2 m2 k2, .int .i64 g3, .int .i64 g4, .bool g5, .int .i64 g6, .slice b7 m7 k7, .slice b8 m8 k8, .int .i64 g9] 32)).cell? ⟨w.heap.size, 0, none⟩ = some (.int .i64 x0) := box_cell i3.1 rfl
    have y1 : (w2.alloc (.cells #[.int .i64 g0, .int .i64 g1, .slice b2 m2 k2, .int .i64 g3, .int .i64 g4, .bool g5, .int .i64 g6, .slice b7 m7 k7, .slice b8 m8 k8, .int .i64 g9] 32)).cell? ⟨w.heap.size, 1, none⟩ = some (.int .i64 x1) := box_cell i3.1 rfl
    have y2 : (w2.alloc (.cells #[.int .i64 g0, .int .i64 g1, .slice b2 m2 k2, .int .i64 g3, .int .i64 g4, .bool g5, .int .i64 g6, .slice b7 m7 k7, .slice b8 m8 k8, .int .i64 g9] 32)).cell? ⟨w.heap.size, 2, none⟩ = some (.slice a2 n2 c2) := box_cell i3.1 rfl
    have y3 : (w2.alloc (.cells #[.int .i64 g0, .int .i64 g1, .slice b2 m2 k2, .int .i64 g3, .int .i64 g4, .bool g5, .int .i64 g6, .slice b7 m7 k7, .slice b8 m8 k8, .int .i64 g9] 32)).cell? ⟨w.heap.size, 3, none⟩ = some (.int .i64 x3) := box_cell i3.1 rfl
    have y4 : (w2.alloc (.cells #[.int .i64 g0, .int .i64 g1, .slice b2 m2 k2, .int .i64 g3, .int .i64 g4, .bool g5, .int .i64 g6, .slice b7 m7 k7, .slice b8 m8 k8, .int .i64 g9] 32)).cell? ⟨w.heap.size, 4, none⟩ = some (.int .i64 x4) := box_cell i3.1 rfl
    have y5 : (w2.alloc (.cells #[.int .i64 g0, .int .i64 g1, .slice b2 m2 k2, .int .i64 g3, .int .i64 g4, .bool g5, .int .i64 g6, .slice b7 m7 k7, .slice b8 m8 k8, .int .i64 g9] 32)).cell? ⟨w.heap.size, 5, none⟩ = some (.bool x5) := box_cell i3.1 rfl
    have y6 : (w2.alloc (.cells #[.int .i64 g0, .int .i64 g1, .slice b2 m2 k2, .int .i64 g3, .int .i64 g4, .bool g5, .int .i64 g6, .slice b7 m7 k7, .slice b8 m8 k8, .int .i64 g9] 32)).cell? ⟨w.heap.size, 6, none⟩ = some (.int .i64 st) := box_cell i3.1 rfl
    have y7 : (w2.alloc (.cells #[.int .i64 g0, .int .i64 g1, .slice b2 m2 k2, .int .i64 g3, .int .i64 g4, .bool g5, .int .i64 g6, .slice b7 m7 k7, .slice b8 m8 k8, .int .i64 g9] 32)).cell? ⟨w.heap.size, 7, none⟩ = some (.slice a7 n7 c7) := box_cell i3.1 rfl
    have y8 : (w2.alloc (.cells #[.int .i64 g0, .int .i64 g1, .slice b2 m2 k2, .int .i64 g3, .int .i64 g4, .bool g5, .int .i64 g6, .slice b7 m7 k7, .slice b8 m8 k8, .int .i64 g9] 32)).cell? ⟨w.heap.size, 8, none⟩ = some (.slice a8 n8 c8) := box_cell i3.1 rfl
    have y9 : (w2.alloc (.cells #[.int .i64 g0, .int .i64 g1, .slice b2 m2 k2, .int .i64 g3, .int .i64 g4, .bool g5, .int .i64 g6, .slice b7 m7 k7, .slice b8 m8 k8, .int .i64 g9] 32)).cell? ⟨w.heap.size, 9, none⟩ = some (.int .i64 be) := box_cell i3.1 rfl
    go_wp2_with fail
    refine (qv.out _ true HV.out (HB1.out.1.trans (s3.out.1.mono HB1.out.1.size))).mono ?_
    rintro e w4 ⟨rfl, hb4⟩
    have s4 : Hid (Below W1.heap.size W1 w4) := s3.out.1.trans (hb4.mono s3.out.1.size)
    have HW4 : Hid (Below (w2.alloc (.cells #[.int .i64 g0, .int .i64 g1, .slice b2 m2 k2, .int .i64 g3, .int .i64 g4, .bool g5, .int .i64 g6, .slice b7 m7 k7, .slice b8 m8 k8, .int .i64 g9] 32)).heap.size (w2.alloc (.cells #[.int .i64 g0, .int .i64 g1, .slice b2 m2 k2, .int .i64 g3, .int .i64 g4, .bool g5, .int .i64 g6, .slice b7 m7 k7, .slice b8 m8 k8, .int .i64 g9] 32)) w4) := hb4
    have i4 := HBX.out _ s4.out
    clear hb4 y0 y1 y2 y3 y4 y5 y6 y7 y8 y9
    have j8 : w4.heap[w2.heap.size]? = some (.cells #[.int .i64 g0, .int .i64 g1, .slice b2 m2 k2, .int .i64 g3, .int .i64 g4, .bool g5, .int .i64 g6, .slice b7 m7 k7, .slice b8 m8 k8, .int .i64 g9] 32 (0, 0)) := (HW4.out.block _ (by simp)).trans (heap_alloc_new w2 _)
    have y9 : w4.cell? ⟨w.heap.size, 9, none⟩ = some (.int .i64 be) := box_cell i4.1 rfl
    have z9 : w4.cell? ⟨w2.heap.size, 9, none⟩ = some (.int .i64 g9) := box_cell j8 rfl
    have z0 : w4.cell? ⟨w2.heap.size, 0, none⟩ = some (.int .i64 g0) := box_cell j8 rfl
    have z1 : w4.cell? ⟨w2.heap.size, 1, none⟩ = some (.int .i64 g1) := box_cell j8 rfl
    have z2 : w4.cell? ⟨w2.heap.size, 2, none⟩ = some (.slice b2 m2 k2) := box_cell j8 rfl
    have z3 : w4.cell? ⟨w2.heap.size, 3, none⟩ = some (.int .i64 g3) := box_cell j8 rfl
    have z4 : w4.cell? ⟨w2.heap.size, 4, none⟩ = some (.int .i64 g4) := box_cell j8 rfl
    have z5 : w4.cell? ⟨w2.heap.size, 5, none⟩ = some (.bool g5) := box_cell j8 rfl
    have z6 : w4.cell? ⟨w2.heap.size, 6, none⟩ = some (.int .i64 g6) := box_cell j8 rfl
    have z7 : w4.cell? ⟨w2.heap.size, 7, none⟩ = some (.slice b7 m7 k7) := box_cell j8 rfl
    have z8 : w4.cell? ⟨w2.heap.size, 8, none⟩ = some (.slice b8 m8 k8) := box_cell j8 rfl
    have zf : w4.frozen? ⟨w2.heap.size, 9, none⟩ = false := box_frozen j8
    have hlt : w.heap.size + 2 ≤ w2.heap.size := by have h1 := HB1.out.2; have h2 := s3.out.2; omega
    have j9 : (w4.setCell ⟨w2.heap.size, 9, none⟩ (.int .i64 be)).heap[w2.heap.size]? = some (.cells #[.int .i64 g0, .int .i64 g1, .slice b2 m2 k2, .int .i64 g3, .int .i64 g4, .bool g5, .int .i64 g6, .slice b7 m7 k7, .slice b8 m8 k8, .int .i64 be] 32 (0, 0)) := by have := box_set (j := 9) (.int .i64 be) j8; simpa using this
    have jr : (w4.setCell ⟨w2.heap.size, 9, none⟩ (.int .i64 be)).heap[w.heap.size + 1]? = some (.cells #[.int .i64 0, .int .i64 0, .slice none 0 0, .int .i64 0, .int .i64 0, .bool false, .int .i64 0, .slice none 0 0, .slice none 0 0, .int .i64 0] 32 (0, 0)) := (box_other _ (by omega)).trans i4.2
    have u0 : (w4.setCell ⟨w2.heap.size, 9, none⟩ (.int .i64 be)).cell? ⟨w2.heap.size, 0, none⟩ = some (.int .i64 g0) := box_cell j9 rfl
    have u1 : (w4.setCell ⟨w2.heap.size, 9, none⟩ (.int .i64 be)).cell? ⟨w2.heap.size, 1, none⟩ = some (.int .i64 g1) := box_cell j9 rfl
    have u2 : (w4.setCell ⟨w2.heap.size, 9, none⟩ (.int .i64 be)).cell? ⟨w2.heap.size, 2, none⟩ = some (.slice b2 m2 k2) := box_cell j9 rfl
    have u3 : (w4.setCell ⟨w2.heap.size, 9, none⟩ (.int .i64 be)).cell? ⟨w2.heap.size, 3, none⟩ = some (.int .i64 g3) := box_cell j9 rfl
    have u4 : (w4.setCell ⟨w2.heap.size, 9, none⟩ (.int .i64 be)).cell? ⟨w2.heap.size, 4, none⟩ = some (.int .i64 g4) := box_cell j9 rfl
    have u5 : (w4.setCell ⟨w2.heap.size, 9, none⟩ (.int .i64 be)).cell? ⟨w2.heap.size, 5, none⟩ = some (.bool g5) := box_cell j9 rfl
    have u6 : (w4.setCell ⟨w2.heap.size, 9, none⟩ (.int .i64 be)).cell? ⟨w2.heap.size, 6, none⟩ = some (.int .i64 g6) := box_cell j9 rfl
    have u7 : (w4.setCell ⟨w2.heap.size, 9, none⟩ (.int .i64 be)).cell? ⟨w2.heap.size, 7, none⟩ = some (.slice b7 m7 k7) := box_cell j9 rfl
    have u8 : (w4.setCell ⟨w2.heap.size, 9, none⟩ (.int .i64 be)).cell? ⟨w2.heap.size, 8, none⟩ = some (.slice b8 m8 k8) := box_cell j9 rfl
    have u9 : (w4.setCell ⟨w2.heap.size, 9, none⟩ (.int .i64 be)).cell? ⟨w2.heap.size, 9, none⟩ = some (.int .i64 be) := box_cell j9 rfl
    have HLD : (loadVar 32 ⟨w.heap.size + 1, 0, none⟩).run Tryd.prog ((w4.setCell ⟨w2.heap.size, 9, none⟩ (.int .i64 be)).setRow (w.heap.size + 1) #[.int .i64 g0, .int .i64 g1, .slice b2 m2 k2, .int .i64 g3, .int .i64 g4, .bool g5, .int .i64 g6, .slice b7 m7 k7, .slice b8 m8 k8, .int .i64 be]) = .ok (.agg #[.int .i64 g0, .int .i64 g1, .slice b2 m2 k2, .int .i64 g3, .int .i64 g4, .bool g5, .int .i64 g6, .slice b7 m7 k7, .slice b8 m8 k8, .int .i64 be]) ((w4.setCell ⟨w2.heap.size, 9, none⟩ (.int .i64 be)).setRow (w.heap.size + 1) #[.int .i64 g0, .int .i64 g1, .slice b2 m2 k2, .int .i64 g3, .int .i64 g4, .bool g5, .int .i64 g6, .slice b7 m7 k7, .slice b8 m8 k8, .int .i64 be]) := run_loadVar_row _ _ _ _ _ _ _ (setRow_heap _ _ _ _ _ _ jr) Tryd.underlying32 rfl (by kernel_rfl)
    have HO : Hid (Below w.heap.size w ((w4.setCell ⟨w2.heap.size, 9, none⟩ (.int .i64 be)).setRow (w.heap.size + 1) #[.int .i64 g0, .int .i64 g1, .slice b2 m2 k2, .int .i64 g3, .int .i64 g4, .bool g5, .int .i64 g6, .slice b7 m7 k7, .slice b8 m8 k8, .int .i64 be])) := below_setRow ((HB1.out.1.trans (s4.out.mono HB1.out.1.size)).setCell (p := ⟨w2.heap.size, 9, none⟩) (by show w.heap.size ≤ w2.heap.size; omega) _) (Nat.le_add_right _ 1) #[.int .i64 g0, .int .i64 g1, .slice b2 m2 k2, .int .i64 g3, .int .i64 g4, .bool g5, .int .i64 g6, .slice b7 m7 k7, .slice b8 m8 k8, .int .i64 be]
    have HOW : Hid (Own shVt ((w4.setCell ⟨w2.heap.size, 9, none⟩ (.int .i64 be)).setRow (w.heap.size + 1) #[.int .i64 g0, .int .i64 g1, .slice b2 m2 k2, .int .i64 g3, .int .i64 g4, .bool g5, .int .i64 g6, .slice b7 m7 k7, .slice b8 m8 k8, .int .i64 be]) w.heap.size [.int .i64 g0, .int .i64 g1, .slice b2 m2 k2, .int .i64 g3, .int .i64 g4, .bool g5, .int .i64 g6, .slice b7 m7 k7, .slice b8 m8 k8, .int .i64 be] ((D.1, D.2.1, D.2.2.1, D.2.2.2.1, be, ()) : VtD) F) := by
      have h1 := HOW2.out.1.later HW4.out
      have h2 : Own shVt ((w4.setCell ⟨w2.heap.size, 9, none⟩ (.int .i64 be)).setRow (w.heap.size + 1) #[.int .i64 g0, .int .i64 g1, .slice b2 m2 k2, .int .i64 g3, .int .i64 g4, .bool g5, .int .i64 g6, .slice b7 m7 k7, .slice b8 m8 k8, .int .i64 be]) W1.heap.size [.int .i64 g0, .int .i64 g1, .slice b2 m2 k2, .int .i64 g3, .int .i64 g4, .bool g5, .int .i64 g6, .slice b7 m7 k7, .slice b8 m8 k8, .int .i64 g9] D F := h1.keep fun g hg => by
        have k1 := HOW2.out.2 g hg
        have k2 := (HOW2.out.1.lt g hg).1
        have k3 := HB1.out.2
        rw [setRow_other _ _ g _ (by omega)]
        exact box_other _ (by omega)
      exact own_bells (h2.base HB1.out.1.size)
    go_wp2_with (refine wpList_store_row rfl _ _ _ rfl _ _ rfl rfl _ _ jr (by kernel_rfl) rfl (by simp [Value.oneCell']) ?_)
    (try simp only [Exit.inBlock, Exit.then])
    refine bodyPost_ret (by simp [results, Tryd.results11, asAddr, Act.put, HLD]; try rfl) rfl ?_
    refine ⟨_, F, by (rw [E.out.1]; try rfl), ?_, HND.out, HO.out⟩
    rw [E.out.2]
    exact HOW.out

end Go.Proofs.YtojalheohpkdoaaDoor
