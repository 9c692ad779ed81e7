/-
  VtNew of both sides. By program (vtngen.py).
-/
import Derived.Test.YtojalheohpkdoaaDoorGrN
import Derived.Test.YtojalheohpkdoaaDoorTyVt
namespace Go.Proofs.YtojalheohpkdoaaDoor
open Go.RowKit
set_option linter.unusedVariables false
set_option linter.unusedSimpArgs false

abbrev VtD : Type := shVt.D
/-- A terminal with nothing but its grid. -/
def vtA (g : GrD) : VtD := (g, (0 : Int), [], [], (0 : Int), ())

theorem own_setRowLo {s : Sh} {w : World} {B b : Nat} {cs : List Value} {d : s.D} {F : List Nat} (h : Own s w B cs d F) (r : Array Value) (hb : b < B) : Own s (w.setRow b r) B cs d F :=
  h.keep fun g hg => setRow_other w b g _ (by have := (h.lt g hg).1; omega)

set_option maxRecDepth 100000 in
set_option maxHeartbeats 4000000 in
theorem specVtNew_any (x y : Int) (w : World) :
    Calls Tryd.prog 31 #[.int .i64 x, .int .i64 y] w fun e w' => ∃ o F, e = .returned (.tuple #[.agg o.toArray, .bool (sidesB x y)]) ∧ Own shVt w' w.heap.size o (vtA (newG x y)) F ∧ F.Nodup ∧ Below w.heap.size w w' := by
  obtain ⟨D, hD⟩ : ∃ D : GrD, D = newG x y := ⟨_, rfl⟩
  obtain ⟨bo, hbo⟩ : ∃ b, b = sidesB x y := ⟨_, rfl⟩
  have q : Hid (∀ w', Calls Tryd.prog 45 #[.int .i64 x, .int .i64 y] w' fun e w'' => ∃ o F, e = .returned (.tuple #[.agg o.toArray, .bool bo]) ∧ Own shGrid w'' w'.heap.size o D F ∧ F.Nodup ∧ Below w'.heap.size w' w'') := fun w' => by rw [hbo]; exact specGridNew_any x y D hD w'
  rw [← hD, ← hbo]
  obtain ⟨x0, e0⟩ : ∃ x : Int, x = D.1 := ⟨_, rfl⟩
  obtain ⟨x1, e1⟩ : ∃ x : Int, x = D.2.1 := ⟨_, rfl⟩
  obtain ⟨x3, e3⟩ : ∃ x : Int, x = D.2.2.2.1 := ⟨_, rfl⟩
  obtain ⟨x4, e4⟩ : ∃ x : Int, x = D.2.2.2.2.1 := ⟨_, rfl⟩
  obtain ⟨x5, e5⟩ : ∃ x : Bool, x = D.2.2.2.2.2.1 := ⟨_, rfl⟩
  have HE : Hid (x0 = D.1 ∧ x1 = D.2.1 ∧ x3 = D.2.2.2.1 ∧ x4 = D.2.2.2.2.1 ∧ x5 = D.2.2.2.2.2.1) := ⟨e0, e1, e3, e4, e5⟩
  clear hD hbo e0 e1 e3 e4 e5
  obtain ⟨W1, hW1⟩ : ∃ W, W = w.alloc (.cells #[.int .i64 0, .int .i64 0, .slice none 0 0, .int .i64 0, .int .i64 0, .bool false, .int .i64 0, .slice none 0 0, .slice none 0 0, .int .i64 0] 32) := ⟨_, rfl⟩
  have bW1 : Below w.heap.size w W1 := by rw [hW1]; exact (Below.refl _ _).alloc (Nat.le_refl _) _
  have zW1 : W1.heap.size = w.heap.size + 1 := by rw [hW1]; simp
  have hbox1 : W1.heap[w.heap.size]? = some (.cells #[.int .i64 0, .int .i64 0, .slice none 0 0, .int .i64 0, .int .i64 0, .bool false, .int .i64 0, .slice none 0 0, .slice none 0 0, .int .i64 0] 32 (0, 0)) := by rw [hW1]; exact heap_alloc_new w _
  have HBX : Hid (W1.heap[w.heap.size]? = some (.cells #[.int .i64 0, .int .i64 0, .slice none 0 0, .int .i64 0, .int .i64 0, .bool false, .int .i64 0, .slice none 0 0, .slice none 0 0, .int .i64 0] 32 (0, 0)) ∧ W1.heap.size = w.heap.size + 1 ∧ Below w.heap.size w W1) := ⟨hbox1, zW1, bW1⟩
  have HW : Hid (W1 = _) := hW1
  clear hW1 hbox1 bW1 zW1
  go_enter Tryd.func31, Tryd.ntmps31
  go_wp2_with fail
  rw [← HW.out]
  refine (q.out _).mono ?_
  rintro e w2 ⟨o, F, he, ho, hnd, hb⟩
  obtain ⟨a2, n2, c2, hcs, _⟩ := open_Grid ho.reads
  rw [← HE.out.1, ← HE.out.2.1, ← HE.out.2.2.1, ← HE.out.2.2.2.1, ← HE.out.2.2.2.2] at hcs
  subst hcs
  subst he
  have hz := hb.size
  have hz1 := HBX.out.2.1
  have j2 : w2.heap[w.heap.size]? = some (.cells #[.int .i64 0, .int .i64 0, .slice none 0 0, .int .i64 0, .int .i64 0, .bool false, .int .i64 0, .slice none 0 0, .slice none 0 0, .int .i64 0] 32 (0, 0)) := (hb.block _ (by omega)).trans HBX.out.1
  have j3 : (w2.alloc (.cells #[.int .i64 x0, .int .i64 x1, .slice a2 n2 c2, .int .i64 x3, .int .i64 x4, .bool x5] 30)).heap[w.heap.size]? = some (.cells #[.int .i64 0, .int .i64 0, .slice none 0 0, .int .i64 0, .int .i64 0, .bool false, .int .i64 0, .slice none 0 0, .slice none 0 0, .int .i64 0] 32 (0, 0)) := (heap_alloc_old _ _ (by omega)).trans j2
  have HLD : (loadVar 32 ⟨w.heap.size, 0, none⟩).run Tryd.prog ((w2.alloc (.cells #[.int .i64 x0, .int .i64 x1, .slice a2 n2 c2, .int .i64 x3, .int .i64 x4, .bool x5] 30)).setRow w.heap.size #[.int .i64 x0, .int .i64 x1, .slice a2 n2 c2, .int .i64 x3, .int .i64 x4, .bool x5, .int .i64 0, .slice none 0 0, .slice none 0 0, .int .i64 0]) = .ok (.agg #[.int .i64 x0, .int .i64 x1, .slice a2 n2 c2, .int .i64 x3, .int .i64 x4, .bool x5, .int .i64 0, .slice none 0 0, .slice none 0 0, .int .i64 0]) ((w2.alloc (.cells #[.int .i64 x0, .int .i64 x1, .slice a2 n2 c2, .int .i64 x3, .int .i64 x4, .bool x5] 30)).setRow w.heap.size #[.int .i64 x0, .int .i64 x1, .slice a2 n2 c2, .int .i64 x3, .int .i64 x4, .bool x5, .int .i64 0, .slice none 0 0, .slice none 0 0, .int .i64 0]) := run_loadVar_row _ _ _ _ _ _ _ (setRow_heap _ _ _ _ _ _ j3) Tryd.underlying32 rfl (by kernel_rfl)
  have hbW : Below w.heap.size w (w2.alloc (.cells #[.int .i64 x0, .int .i64 x1, .slice a2 n2 c2, .int .i64 x3, .int .i64 x4, .bool x5] 30)) := (HBX.out.2.2.trans (hb.mono HBX.out.2.2.size)).alloc (by omega) _
  have h1 : Own shGrid (w2.alloc (.cells #[.int .i64 x0, .int .i64 x1, .slice a2 n2 c2, .int .i64 x3, .int .i64 x4, .bool x5] 30)) W1.heap.size _ D F := ho.later ((Below.refl w2.heap.size w2).alloc (Nat.le_refl _) _)
  have h2 := Own.base (s := shGrid) (own_setRowLo (s := shGrid) (b := w.heap.size) h1 #[.int .i64 x0, .int .i64 x1, .slice a2 n2 c2, .int .i64 x3, .int .i64 x4, .bool x5, .int .i64 0, .slice none 0 0, .slice none 0 0, .int .i64 0] (by omega)) (show w.heap.size ≤ W1.heap.size by omega)
  have HO : Hid (_ ∧ _) := ⟨h2, below_setRow hbW (Nat.le_refl _) #[.int .i64 x0, .int .i64 x1, .slice a2 n2 c2, .int .i64 x3, .int .i64 x4, .bool x5, .int .i64 0, .slice none 0 0, .slice none 0 0, .int .i64 0]⟩
  clear ho hb hz hz1 j2 hbW h1 h2
  go_wp2_with (refine wpList_store_row rfl _ _ _ rfl _ _ rfl rfl _ _ j3 (by kernel_rfl) rfl (by simp [Value.oneCell']) ?_)
  (try simp only [Exit.inBlock, Exit.then])
  refine bodyPost_ret (by simp [results, Tryd.results31, asAddr, Act.put, HLD]; try rfl) rfl ?_
  have h3 := HO.out.1
  have h4 := HE.out
  refine ⟨_, F ++ ([] ++ ([] ++ [])), rfl, ?_, by simpa using hnd, HO.out.2⟩
  rw [h4.1, h4.2.1, h4.2.2.1, h4.2.2.2.1, h4.2.2.2.2] at h3 ⊢
  exact own_Vt (d := vtA D) (F0 := F) (F2 := []) (F3 := []) h3 (.inl ⟨rfl, rfl, rfl⟩) (.inl ⟨rfl, rfl, rfl⟩)

set_option maxRecDepth 100000 in
set_option maxHeartbeats 4000000 in
theorem implVtNew_any (x y : Int) (w : World) :
    Calls Tryd.prog 32 #[.int .i64 x, .int .i64 y] w fun e w' => ∃ o F, e = .returned (.tuple #[.agg o.toArray, .bool (sidesB x y)]) ∧ Own shVt w' w.heap.size o (vtA (newG x y)) F ∧ F.Nodup ∧ Below w.heap.size w w' := by
  obtain ⟨D, hD⟩ : ∃ D : GrD, D = newG x y := ⟨_, rfl⟩
  obtain ⟨bo, hbo⟩ : ∃ b, b = sidesB x y := ⟨_, rfl⟩
  have q : Hid (∀ w', Calls Tryd.prog 46 #[.int .i64 x, .int .i64 y] w' fun e w'' => ∃ o F, e = .returned (.tuple #[.agg o.toArray, .bool bo]) ∧ Own shGrid w'' w'.heap.size o D F ∧ F.Nodup ∧ Below w'.heap.size w' w'') := fun w' => by rw [hbo]; exact implGridNew_any x y D hD w'
  rw [← hD, ← hbo]
  obtain ⟨x0, e0⟩ : ∃ x : Int, x = D.1 := ⟨_, rfl⟩
  obtain ⟨x1, e1⟩ : ∃ x : Int, x = D.2.1 := ⟨_, rfl⟩
  obtain ⟨x3, e3⟩ : ∃ x : Int, x = D.2.2.2.1 := ⟨_, rfl⟩
  obtain ⟨x4, e4⟩ : ∃ x : Int, x = D.2.2.2.2.1 := ⟨_, rfl⟩
  obtain ⟨x5, e5⟩ : ∃ x : Bool, x = D.2.2.2.2.2.1 := ⟨_, rfl⟩
  have HE : Hid (x0 = D.1 ∧ x1 = D.2.1 ∧ x3 = D.2.2.2.1 ∧ x4 = D.2.2.2.2.1 ∧ x5 = D.2.2.2.2.2.1) := ⟨e0, e1, e3, e4, e5⟩
  clear hD hbo e0 e1 e3 e4 e5
  obtain ⟨W1, hW1⟩ : ∃ W, W = w.alloc (.cells #[.int .i64 0, .int .i64 0, .slice none 0 0, .int .i64 0, .int .i64 0, .bool false, .int .i64 0, .slice none 0 0, .slice none 0 0, .int .i64 0] 32) := ⟨_, rfl⟩
  have bW1 : Below w.heap.size w W1 := by rw [hW1]; exact (Below.refl _ _).alloc (Nat.le_refl _) _
  have zW1 : W1.heap.size = w.heap.size + 1 := by rw [hW1]; simp
  have hbox1 : W1.heap[w.heap.size]? = some (.cells #[.int .i64 0, .int .i64 0, .slice none 0 0, .int .i64 0, .int .i64 0, .bool false, .int .i64 0, .slice none 0 0, .slice none 0 0, .int .i64 0] 32 (0, 0)) := by rw [hW1]; exact heap_alloc_new w _
  have HBX : Hid (W1.heap[w.heap.size]? = some (.cells #[.int .i64 0, .int .i64 0, .slice none 0 0, .int .i64 0, .int .i64 0, .bool false, .int .i64 0, .slice none 0 0, .slice none 0 0, .int .i64 0] 32 (0, 0)) ∧ W1.heap.size = w.heap.size + 1 ∧ Below w.heap.size w W1) := ⟨hbox1, zW1, bW1⟩
  have HW : Hid (W1 = _) := hW1
  clear hW1 hbox1 bW1 zW1
  go_enter Tryd.func32, Tryd.ntmps32
  go_wp2_with fail
  rw [← HW.out]
  refine (q.out _).mono ?_
  rintro e w2 ⟨o, F, he, ho, hnd, hb⟩
  obtain ⟨a2, n2, c2, hcs, _⟩ := open_Grid ho.reads
  rw [← HE.out.1, ← HE.out.2.1, ← HE.out.2.2.1, ← HE.out.2.2.2.1, ← HE.out.2.2.2.2] at hcs
  subst hcs
  subst he
  have hz := hb.size
  have hz1 := HBX.out.2.1
  have j2 : w2.heap[w.heap.size]? = some (.cells #[.int .i64 0, .int .i64 0, .slice none 0 0, .int .i64 0, .int .i64 0, .bool false, .int .i64 0, .slice none 0 0, .slice none 0 0, .int .i64 0] 32 (0, 0)) := (hb.block _ (by omega)).trans HBX.out.1
  have j3 : (w2.alloc (.cells #[.int .i64 x0, .int .i64 x1, .slice a2 n2 c2, .int .i64 x3, .int .i64 x4, .bool x5] 30)).heap[w.heap.size]? = some (.cells #[.int .i64 0, .int .i64 0, .slice none 0 0, .int .i64 0, .int .i64 0, .bool false, .int .i64 0, .slice none 0 0, .slice none 0 0, .int .i64 0] 32 (0, 0)) := (heap_alloc_old _ _ (by omega)).trans j2
  have HLD : (loadVar 32 ⟨w.heap.size, 0, none⟩).run Tryd.prog ((w2.alloc (.cells #[.int .i64 x0, .int .i64 x1, .slice a2 n2 c2, .int .i64 x3, .int .i64 x4, .bool x5] 30)).setRow w.heap.size #[.int .i64 x0, .int .i64 x1, .slice a2 n2 c2, .int .i64 x3, .int .i64 x4, .bool x5, .int .i64 0, .slice none 0 0, .slice none 0 0, .int .i64 0]) = .ok (.agg #[.int .i64 x0, .int .i64 x1, .slice a2 n2 c2, .int .i64 x3, .int .i64 x4, .bool x5, .int .i64 0, .slice none 0 0, .slice none 0 0, .int .i64 0]) ((w2.alloc (.cells #[.int .i64 x0, .int .i64 x1, .slice a2 n2 c2, .int .i64 x3, .int .i64 x4, .bool x5] 30)).setRow w.heap.size #[.int .i64 x0, .int .i64 x1, .slice a2 n2 c2, .int .i64 x3, .int .i64 x4, .bool x5, .int .i64 0, .slice none 0 0, .slice none 0 0, .int .i64 0]) := run_loadVar_row _ _ _ _ _ _ _ (setRow_heap _ _ _ _ _ _ j3) Tryd.underlying32 rfl (by kernel_rfl)
  have hbW : Below w.heap.size w (w2.alloc (.cells #[.int .i64 x0, .int .i64 x1, .slice a2 n2 c2, .int .i64 x3, .int .i64 x4, .bool x5] 30)) := (HBX.out.2.2.trans (hb.mono HBX.out.2.2.size)).alloc (by omega) _
  have h1 : Own shGrid (w2.alloc (.cells #[.int .i64 x0, .int .i64 x1, .slice a2 n2 c2, .int .i64 x3, .int .i64 x4, .bool x5] 30)) W1.heap.size _ D F := ho.later ((Below.refl w2.heap.size w2).alloc (Nat.le_refl _) _)
  have h2 := Own.base (s := shGrid) (own_setRowLo (s := shGrid) (b := w.heap.size) h1 #[.int .i64 x0, .int .i64 x1, .slice a2 n2 c2, .int .i64 x3, .int .i64 x4, .bool x5, .int .i64 0, .slice none 0 0, .slice none 0 0, .int .i64 0] (by omega)) (show w.heap.size ≤ W1.heap.size by omega)
  have HO : Hid (_ ∧ _) := ⟨h2, below_setRow hbW (Nat.le_refl _) #[.int .i64 x0, .int .i64 x1, .slice a2 n2 c2, .int .i64 x3, .int .i64 x4, .bool x5, .int .i64 0, .slice none 0 0, .slice none 0 0, .int .i64 0]⟩
  clear ho hb hz hz1 j2 hbW h1 h2
  go_wp2_with (refine wpList_store_row rfl _ _ _ rfl _ _ rfl rfl _ _ j3 (by kernel_rfl) rfl (by simp [Value.oneCell']) ?_)
  (try simp only [Exit.inBlock, Exit.then])
  refine bodyPost_ret (by simp [results, Tryd.results32, asAddr, Act.put, HLD]; try rfl) rfl ?_
  have h3 := HO.out.1
  have h4 := HE.out
  refine ⟨_, F ++ ([] ++ ([] ++ [])), rfl, ?_, by simpa using hnd, HO.out.2⟩
  rw [h4.1, h4.2.1, h4.2.2.1, h4.2.2.2.1, h4.2.2.2.2] at h3 ⊢
  exact own_Vt (d := vtA D) (F0 := F) (F2 := []) (F3 := []) h3 (.inl ⟨rfl, rfl, rfl⟩) (.inl ⟨rfl, rfl, rfl⟩)

end Go.Proofs.YtojalheohpkdoaaDoor
