/-
  GridNew of both sides. By program (grngen.py).
-/
import Derived.Test.YtojalheohpkdoaaDoorGrC
namespace Go.Proofs.YtojalheohpkdoaaDoor
open Go.RowKit
set_option linter.unusedVariables false
set_option linter.unusedSimpArgs false

/-- A blank grid. -/
def newG (x y : Int) : GrD := if sidesB x y = true then (x, y, List.replicate (x * y).toNat 32, (0 : Int), (0 : Int), false, ()) else zeroG
theorem newG_no {x y : Int} (h : sidesB x y = false) : newG x y = zeroG := by unfold newG; rw [h]; rfl
theorem newG_yes {x y : Int} (h : sidesB x y = true) : newG x y = (x, y, List.replicate (x * y).toNat 32, (0 : Int), (0 : Int), false, ()) := by unfold newG; rw [h]; rfl
theorem up_rep (n : Nat) : up 32 (List.replicate n 0) = List.replicate n 32 := by unfold up; simp

theorem cells_newG (w : World) (cs : List Value) (t : TypeId) (b : Nat) (hb : w.heap.size = b) : ∀ j u, cs[j]? = some u → (w.alloc (.cells cs.toArray t)).cell? ((⟨b, 0, none⟩ : Addr).add j) = some u := by
  intro j u hu
  subst hb
  have e : (⟨w.heap.size, 0, none⟩ : Addr).add j = ⟨w.heap.size, j, none⟩ := by cases j <;> simp [Addr.add]
  rw [e]
  exact box_cell (heap_alloc_new w _) (by simpa using hu)

set_option maxRecDepth 100000 in
set_option maxHeartbeats 4000000 in
theorem implGridNew_any (x y : Int) (R : GrD) (hR : R = newG x y) (w : World) :
    Calls Tryd.prog 46 #[.int .i64 x, .int .i64 y] w fun e w' => ∃ o F, e = .returned (.tuple #[.agg o.toArray, .bool (sidesB x y)]) ∧ Own shGrid w' w.heap.size o R F ∧ F.Nodup ∧ Below w.heap.size w w' := by
  obtain ⟨i0, hi, hz0, hz1, hz2⟩ := info_parts Tryd.infoI
  have HRR : Hid (R = _) := hR
  clear hR
  obtain ⟨W1, hW1⟩ : ∃ W, W = w.alloc (.cells #[.int .i64 0, .int .i64 0, .slice none 0 0, .int .i64 0, .int .i64 0, .bool false] 30) := ⟨_, rfl⟩
  have bW1 : Below w.heap.size w W1 := by rw [hW1]; exact (Below.refl _ _).alloc (Nat.le_refl _) _
  have zW1 : W1.heap.size = w.heap.size + 1 := by rw [hW1]; simp
  have hbox1 : W1.heap[w.heap.size]? = some (.cells #[.int .i64 0, .int .i64 0, .slice none 0 0, .int .i64 0, .int .i64 0, .bool false] 30 (0, 0)) := by rw [hW1]; exact heap_alloc_new w _
  have HBR : Hid (∀ w', Below W1.heap.size W1 w' → w'.heap[w.heap.size]? = some (.cells #[.int .i64 0, .int .i64 0, .slice none 0 0, .int .i64 0, .int .i64 0, .bool false] 30 (0, 0))) := fun w' h' => (h'.block _ (by omega)).trans hbox1
  have HW : Hid (W1 = _) := hW1
  have HB1 : Hid (Below w.heap.size w W1) := bW1
  have qs : Hid (∀ w', Calls Tryd.prog 42 #[.int .i64 x, .int .i64 y] w' fun e w'' => e = .returned (.bool (sidesB x y)) ∧ w'' = w') := fun w' => sides_any x y w'
  have j1 := HBR.out W1 (Below.refl _ _)
  clear hW1 hbox1
  by_cases hs : sidesB x y = true
  rotate_left
  · have hs' : sidesB x y = false := by simpa using hs
    have HS : Hid (sidesB x y = false) := hs'
    rw [hs'] at qs ⊢
    clear hs hs'
    have HLD : (loadVar 30 ⟨w.heap.size, 0, none⟩).run Tryd.prog (W1.setRow w.heap.size #[.int .i64 0, .int .i64 0, .slice none 0 0, .int .i64 0, .int .i64 0, .bool false]) = .ok (.agg #[.int .i64 0, .int .i64 0, .slice none 0 0, .int .i64 0, .int .i64 0, .bool false]) (W1.setRow w.heap.size #[.int .i64 0, .int .i64 0, .slice none 0 0, .int .i64 0, .int .i64 0, .bool false]) := run_loadVar_row _ _ _ _ _ _ _ (setRow_heap _ _ _ _ _ _ j1) Tryd.underlying30 rfl (by kernel_rfl)
    have HO : Hid (_) := below_setRow bW1 (Nat.le_refl _) #[.int .i64 0, .int .i64 0, .slice none 0 0, .int .i64 0, .int .i64 0, .bool false]
    go_enter Tryd.func46, Tryd.ntmps46
    go_wp2_with fail
    rw [← HW.out]
    refine (qs.out _).mono ?_
    rintro e w2 ⟨rfl, rfl⟩
    go_wp2_with (refine wpList_store_row rfl _ _ _ rfl _ _ rfl rfl _ _ j1 (by kernel_rfl) rfl (by simp [Value.oneCell']) ?_)
    (try simp only [Exit.inBlock, Exit.then])
    refine bodyPost_ret (by simp [results, Tryd.results46, asAddr, Act.put, HLD]; try rfl) rfl ?_
    refine ⟨_, [], rfl, ?_, List.nodup_nil, HO.out⟩
    rw [HRR.out, newG_no HS.out]
    exact own_zeroG _ _
  · obtain ⟨h1, h2, h3, h4, h5⟩ := sidesB_iff.1 hs
    have HS : Hid (sidesB x y = true) := hs
    have hmb := mul_bd h1 h2 h3 h4
    obtain ⟨n, hn⟩ : ∃ n : Nat, x * y = n := ⟨(x * y).toNat, by omega⟩
    have HN : Hid (x * y = n) := hn
    rw [hs] at qs ⊢
    have ZW : Hid (W1.heap.size = w.heap.size + 1) := zW1
    clear hs zW1
    rw [hn] at hmb h5
    have wn : IntKind.i64.wrap (n : Int) = (n : Int) := wrap_i64_in _ (by omega) (by omega)
    have qd : Hid (∀ w' B p g, SheetAt w' B p g n x y 0 0 false (List.replicate n 0) → Calls Tryd.prog 53 #[.pointer (some ⟨p, 0, none⟩)] w' fun e w'' => ∃ k, e = .returned (.agg #[.int .i64 x, .int .i64 y, .slice (some ⟨k, 0, none⟩) n n, .int .i64 0, .int .i64 0, .bool false]) ∧ w''.ownsRow w'.heap.size 3 1 (.slice (some ⟨k, 0, none⟩) n n) n ((List.replicate n 32).map (Value.int .i64)) ∧ Below w'.heap.size w' w'') := fun w' B p g hs => by
      have := grid_any p g n B x y 0 0 false (List.replicate n 0) w' hs (by omega) (fun i hi => by simp [at0, hi])
      rw [up_rep] at this
      exact this
    go_enter Tryd.func46, Tryd.ntmps46
    go_wp2_with fail
    rw [← HW.out]
    refine (qs.out _).mono ?_
    rintro e w2 ⟨rfl, rfl⟩
    go_wp2_with (at_make; refine wpList_make_full _ rfl _ _ 22 rfl w2.heap.size 3 i0 (.int .i64 0) 1 Tryd.underlying22 hi hz0 hz1 _ _ _ _ n rfl rfl rfl rfl ?b2 ?b3 (Nat.le_refl _) ?_)
    case b2 => rw [hz2]; omega
    case b3 => unfold maxLen; omega
    intro w3 hown3 hgrow3
    have e0 : (madeCells #[Value.int .i64 0] n).toList = (List.replicate n (0 : Int)).map (Value.int .i64) := by rw [toList_madeCells_one]; simp
    rw [e0] at hown3
    have hb3 : Below w2.heap.size w2 w3 := (Below.refl _ _).grown hgrow3 (Nat.le_refl _) (fun k h => by cases h)
    have HB3 : Hid (Below w2.heap.size w2 w3) := hb3
    have z3 := hb3.size
    have hl3 : w2.heap.size < w3.heap.size := (hown3.lt w2.heap.size rfl).2
    have hsh : SheetAt (w3.alloc (.cells #[.int .i64 x, .int .i64 y, .slice (some ⟨w2.heap.size, 0, none⟩) n n, .int .i64 0, .int .i64 0, .bool false] 70)) w2.heap.size w3.heap.size w2.heap.size n x y 0 0 false (List.replicate n 0) :=
      ⟨heap_alloc_new w3 _, hown3.alloc _, by simp, by omega, by omega⟩
    have HSH : Hid (SheetAt (w3.alloc (.cells #[.int .i64 x, .int .i64 y, .slice (some ⟨w2.heap.size, 0, none⟩) n n, .int .i64 0, .int .i64 0, .bool false] 70)) w2.heap.size w3.heap.size w2.heap.size n x y 0 0 false (List.replicate n 0)) := hsh
    have HB4 : Hid (Below w2.heap.size w2 (w3.alloc (.cells #[.int .i64 x, .int .i64 y, .slice (some ⟨w2.heap.size, 0, none⟩) n n, .int .i64 0, .int .i64 0, .bool false] 70))) := hb3.alloc z3 _
    clear hown3 hgrow3 hb3 hsh e0
    go_wp2_with fail
    refine (qd.out _ _ _ _ HSH.out).mono ?_
    rintro e w5 ⟨k, rfl, ho5, hb5⟩
    have b5 : Below w2.heap.size w2 w5 := HB4.out.trans (hb5.mono HB4.out.size)
    have j0 := HBR.out w5 b5
    have hk4 := (ho5.lt k rfl).1
    have zW := ZW.out
    simp at hk4
    have HLD : (loadVar 30 ⟨w.heap.size, 0, none⟩).run Tryd.prog (w5.setRow w.heap.size #[.int .i64 x, .int .i64 y, .slice (some ⟨k, 0, none⟩) n n, .int .i64 0, .int .i64 0, .bool false]) = .ok (.agg #[.int .i64 x, .int .i64 y, .slice (some ⟨k, 0, none⟩) n n, .int .i64 0, .int .i64 0, .bool false]) (w5.setRow w.heap.size #[.int .i64 x, .int .i64 y, .slice (some ⟨k, 0, none⟩) n n, .int .i64 0, .int .i64 0, .bool false]) := run_loadVar_row _ _ _ _ _ _ _ (setRow_heap _ _ _ _ _ _ j0) Tryd.underlying30 rfl (by kernel_rfl)
    have HO : Hid (_ ∧ _) := ⟨own_low (own_offR ho5 w.heap.size #[.int .i64 x, .int .i64 y, .slice (some ⟨k, 0, none⟩) n n, .int .i64 0, .int .i64 0, .bool false] (by omega)) (show w.heap.size ≤ _ by simp; omega), below_setRow (HB1.out.trans (b5.mono HB1.out.size)) (Nat.le_refl _) #[.int .i64 x, .int .i64 y, .slice (some ⟨k, 0, none⟩) n n, .int .i64 0, .int .i64 0, .bool false]⟩
    clear ho5 hb5 b5
    go_wp2_with (refine wpList_store_row rfl _ _ _ rfl _ _ rfl rfl _ _ j0 (by kernel_rfl) rfl (by simp [Value.oneCell']) ?_)
    (try simp only [Exit.inBlock, Exit.then])
    refine bodyPost_ret (by simp [results, Tryd.results46, asAddr, Act.put, HLD]; try rfl) rfl ?_
    refine ⟨_, [k] ++ [], rfl, ?_, by simp, HO.out.2⟩
    rw [HRR.out, newG_yes HS.out, HN.out]
    exact own_Grid (d := (x, y, List.replicate n (32 : Int), (0 : Int), (0 : Int), false, ())) (F2 := [k]) (own_ints (List.length_replicate) HO.out.1)

set_option maxRecDepth 100000 in
set_option maxHeartbeats 4000000 in
theorem specGridNew_any (x y : Int) (R : GrD) (hR : R = newG x y) (w : World) :
    Calls Tryd.prog 45 #[.int .i64 x, .int .i64 y] w fun e w' => ∃ o F, e = .returned (.tuple #[.agg o.toArray, .bool (sidesB x y)]) ∧ Own shGrid w' w.heap.size o R F ∧ F.Nodup ∧ Below w.heap.size w w' := by
  obtain ⟨i0, hi, hz0, hz1, hz2⟩ := info_parts Tryd.infoI
  have HRR : Hid (R = _) := hR
  clear hR
  have j1 : (w.alloc (.cells #[.int .i64 0, .int .i64 0, .slice none 0 0, .int .i64 0, .int .i64 0, .bool false] 30)).heap[w.heap.size]? = some (.cells #[.int .i64 0, .int .i64 0, .slice none 0 0, .int .i64 0, .int .i64 0, .bool false] 30 (0, 0)) := heap_alloc_new w _
  have bW1 : Below w.heap.size w (w.alloc (.cells #[.int .i64 0, .int .i64 0, .slice none 0 0, .int .i64 0, .int .i64 0, .bool false] 30)) := (Below.refl _ _).alloc (Nat.le_refl _) _
  have HLD : (loadVar 30 ⟨w.heap.size, 0, none⟩).run Tryd.prog ((w.alloc (.cells #[.int .i64 0, .int .i64 0, .slice none 0 0, .int .i64 0, .int .i64 0, .bool false] 30)).setRow w.heap.size #[.int .i64 0, .int .i64 0, .slice none 0 0, .int .i64 0, .int .i64 0, .bool false]) = .ok (.agg #[.int .i64 0, .int .i64 0, .slice none 0 0, .int .i64 0, .int .i64 0, .bool false]) ((w.alloc (.cells #[.int .i64 0, .int .i64 0, .slice none 0 0, .int .i64 0, .int .i64 0, .bool false] 30)).setRow w.heap.size #[.int .i64 0, .int .i64 0, .slice none 0 0, .int .i64 0, .int .i64 0, .bool false]) := run_loadVar_row _ _ _ _ _ _ _ (setRow_heap _ _ _ _ _ _ j1) Tryd.underlying30 rfl (by kernel_rfl)
  have HO : Hid (_) := below_setRow bW1 (Nat.le_refl _) #[.int .i64 0, .int .i64 0, .slice none 0 0, .int .i64 0, .int .i64 0, .bool false]
  have hcs : x < 2 ∨ (2 ≤ x ∧ 200 < x) ∨ (2 ≤ x ∧ x ≤ 200 ∧ y < 1) ∨ (2 ≤ x ∧ x ≤ 200 ∧ 1 ≤ y ∧ 200 < y) ∨ (2 ≤ x ∧ x ≤ 200 ∧ 1 ≤ y ∧ y ≤ 200 ∧ 8000 < x * y) ∨ (2 ≤ x ∧ x ≤ 200 ∧ 1 ≤ y ∧ y ≤ 200 ∧ x * y ≤ 8000) := by omega
  rcases hcs with h | ⟨h1, h⟩ | ⟨h1, h2, h⟩ | ⟨h1, h2, h3, h⟩ | ⟨h1, h2, h3, h4, h⟩ | ⟨h1, h2, h3, h4, h⟩
  · have HS : Hid (sidesB x y = false) := by show _ = _; cases hs : sidesB x y with | false => rfl | true => exact absurd (sidesB_iff.1 hs).1 (by omega)
    rw [HS.out]
    have t0 : decide (x < 2) = true := decide_eq_true (by omega)
    go_enter Tryd.func45, Tryd.ntmps45
    go_wp2_with (refine wpList_store_row rfl _ _ _ rfl _ _ rfl rfl _ _ j1 (by kernel_rfl) rfl (by simp [Value.oneCell']) ?_)
    (try simp only [Exit.inBlock, Exit.then])
    refine bodyPost_ret (by simp [results, Tryd.results45, asAddr, Act.put, HLD]; try rfl) rfl ?_
    refine ⟨_, [], rfl, ?_, List.nodup_nil, HO.out⟩
    rw [HRR.out, newG_no HS.out]
    exact own_zeroG _ _
  · have HS : Hid (sidesB x y = false) := by show _ = _; cases hs : sidesB x y with | false => rfl | true => exact absurd (sidesB_iff.1 hs).2.1 (by omega)
    rw [HS.out]
    have t0 : decide (x < 2) = false := decide_eq_false (by omega)
    have t1 : decide (200 < x) = true := decide_eq_true (by omega)
    go_enter Tryd.func45, Tryd.ntmps45
    go_wp2_with (refine wpList_store_row rfl _ _ _ rfl _ _ rfl rfl _ _ j1 (by kernel_rfl) rfl (by simp [Value.oneCell']) ?_)
    (try simp only [Exit.inBlock, Exit.then])
    refine bodyPost_ret (by simp [results, Tryd.results45, asAddr, Act.put, HLD]; try rfl) rfl ?_
    refine ⟨_, [], rfl, ?_, List.nodup_nil, HO.out⟩
    rw [HRR.out, newG_no HS.out]
    exact own_zeroG _ _
  · have HS : Hid (sidesB x y = false) := by show _ = _; cases hs : sidesB x y with | false => rfl | true => exact absurd (sidesB_iff.1 hs).2.2.1 (by omega)
    rw [HS.out]
    have t0 : decide (x < 2) = false := decide_eq_false (by omega)
    have t1 : decide (200 < x) = false := decide_eq_false (by omega)
    have t2 : decide (y < 1) = true := decide_eq_true (by omega)
    go_enter Tryd.func45, Tryd.ntmps45
    go_wp2_with (refine wpList_store_row rfl _ _ _ rfl _ _ rfl rfl _ _ j1 (by kernel_rfl) rfl (by simp [Value.oneCell']) ?_)
    (try simp only [Exit.inBlock, Exit.then])
    refine bodyPost_ret (by simp [results, Tryd.results45, asAddr, Act.put, HLD]; try rfl) rfl ?_
    refine ⟨_, [], rfl, ?_, List.nodup_nil, HO.out⟩
    rw [HRR.out, newG_no HS.out]
    exact own_zeroG _ _
  · have HS : Hid (sidesB x y = false) := by show _ = _; cases hs : sidesB x y with | false => rfl | true => exact absurd (sidesB_iff.1 hs).2.2.2.1 (by omega)
    rw [HS.out]
    have t0 : decide (x < 2) = false := decide_eq_false (by omega)
    have t1 : decide (200 < x) = false := decide_eq_false (by omega)
    have t2 : decide (y < 1) = false := decide_eq_false (by omega)
    have t3 : decide (200 < y) = true := decide_eq_true (by omega)
    go_enter Tryd.func45, Tryd.ntmps45
    go_wp2_with (refine wpList_store_row rfl _ _ _ rfl _ _ rfl rfl _ _ j1 (by kernel_rfl) rfl (by simp [Value.oneCell']) ?_)
    (try simp only [Exit.inBlock, Exit.then])
    refine bodyPost_ret (by simp [results, Tryd.results45, asAddr, Act.put, HLD]; try rfl) rfl ?_
    refine ⟨_, [], rfl, ?_, List.nodup_nil, HO.out⟩
    rw [HRR.out, newG_no HS.out]
    exact own_zeroG _ _
  · have HS : Hid (sidesB x y = false) := by show _ = _; cases hs : sidesB x y with | false => rfl | true => exact absurd (sidesB_iff.1 hs).2.2.2.2 (by omega)
    rw [HS.out]
    have hbd := mul_bd h1 h2 h3 h4
    obtain ⟨q, hq⟩ : ∃ q, x * y = q := ⟨_, rfl⟩
    rw [hq] at hbd h
    have wq : IntKind.i64.wrap q = q := wrap_i64_in _ (by omega) (by omega)
    have t0 : decide (x < 2) = false := decide_eq_false (by omega)
    have t1 : decide (200 < x) = false := decide_eq_false (by omega)
    have t2 : decide (y < 1) = false := decide_eq_false (by omega)
    have t3 : decide (200 < y) = false := decide_eq_false (by omega)
    have t4 : decide (8000 < q) = true := decide_eq_true (by omega)
    go_enter Tryd.func45, Tryd.ntmps45
    go_wp2_with (refine wpList_store_row rfl _ _ _ rfl _ _ rfl rfl _ _ j1 (by kernel_rfl) rfl (by simp [Value.oneCell']) ?_)
    (try simp only [Exit.inBlock, Exit.then])
    refine bodyPost_ret (by simp [results, Tryd.results45, asAddr, Act.put, HLD]; try rfl) rfl ?_
    refine ⟨_, [], rfl, ?_, List.nodup_nil, HO.out⟩
    rw [HRR.out, newG_no HS.out]
    exact own_zeroG _ _
  · have HS : Hid (sidesB x y = true) := sidesB_iff.2 ⟨h1, h2, h3, h4, h⟩
    have hmb := mul_bd h1 h2 h3 h4
    obtain ⟨n, hn⟩ : ∃ n : Nat, x * y = n := ⟨(x * y).toNat, by omega⟩
    have HN : Hid (x * y = n) := hn
    rw [HS.out]
    rw [hn] at hmb h
    have wn : IntKind.i64.wrap (n : Int) = (n : Int) := wrap_i64_in _ (by omega) (by omega)
    have t0 : decide (x < 2) = false := decide_eq_false (by omega)
    have t1 : decide (200 < x) = false := decide_eq_false (by omega)
    have t2 : decide (y < 1) = false := decide_eq_false (by omega)
    have t3 : decide (200 < y) = false := decide_eq_false (by omega)
    have t4 : decide (8000 < (n : Int)) = false := decide_eq_false (by omega)
    clear HO HLD j1 bW1
    obtain ⟨W1, hW1⟩ : ∃ W, W = (w.alloc (.cells #[.int .i64 0, .int .i64 0, .slice none 0 0, .int .i64 0, .int .i64 0, .bool false] 30)).alloc (.cells #[.int .i64 x, .int .i64 y, .slice none 0 0, .int .i64 0, .int .i64 0, .bool false] 30) := ⟨_, rfl⟩
    have bW1 : Below w.heap.size w W1 := by rw [hW1]; exact ((Below.refl _ _).alloc (Nat.le_refl _) _).alloc (by simp) _
    have zW1 : W1.heap.size = w.heap.size + 1 + 1 := by rw [hW1]; simp
    have hb1 : W1.heap[w.heap.size + 1]? = some (.cells #[.int .i64 x, .int .i64 y, .slice none 0 0, .int .i64 0, .int .i64 0, .bool false] 30 (0, 0)) := by
      rw [hW1]
      have := heap_alloc_new (w.alloc (.cells #[.int .i64 0, .int .i64 0, .slice none 0 0, .int .i64 0, .int .i64 0, .bool false] 30)) (.cells #[.int .i64 x, .int .i64 y, .slice none 0 0, .int .i64 0, .int .i64 0, .bool false] 30)
      simpa using this
    have hb0 : W1.heap[w.heap.size]? = some (.cells #[.int .i64 0, .int .i64 0, .slice none 0 0, .int .i64 0, .int .i64 0, .bool false] 30 (0, 0)) := by
      rw [hW1, heap_alloc_old _ _ (by simp)]; exact heap_alloc_new w _
    have HW : Hid (W1 = _) := hW1
    have HB : Hid (W1.heap[w.heap.size + 1]? = some (.cells #[.int .i64 x, .int .i64 y, .slice none 0 0, .int .i64 0, .int .i64 0, .bool false] 30 (0, 0)) ∧ W1.heap[w.heap.size]? = some (.cells #[.int .i64 0, .int .i64 0, .slice none 0 0, .int .i64 0, .int .i64 0, .bool false] 30 (0, 0)) ∧ Below w.heap.size w W1) := ⟨hb1, hb0, bW1⟩
    have ZW : Hid (W1.heap.size = w.heap.size + 1 + 1) := zW1
    clear hW1 hb1 hb0 bW1 zW1
    go_enter Tryd.func45, Tryd.ntmps45
    go_wp2
    rw [← HW.out]
    go_loopw [7] (fun i wr => ∃ (k : Nat) (v : Value), k ≤ n ∧ i = .int .i64 k ∧ wr.heap[w.heap.size + 1]? = some (.cells #[.int .i64 x, .int .i64 y, v, .int .i64 0, .int .i64 0, .bool false] 30 (0, 0)) ∧ wr.ownsRow W1.heap.size 3 1 v k ((List.replicate k (32 : Int)).map (Value.int .i64)) ∧ wr.heap[w.heap.size]? = some (.cells #[.int .i64 0, .int .i64 0, .slice none 0 0, .int .i64 0, .int .i64 0, .bool false] 30 (0, 0)) ∧ Below w.heap.size w wr ∧ W1.heap.size ≤ wr.heap.size) (fun i _ => n - (intOf i).toNat)
    case atStart => exact ⟨0, _, Nat.zero_le _, rfl, HB.out.1, ⟨by simp, .inl ⟨rfl, rfl⟩⟩, HB.out.2.1, HB.out.2.2, Nat.le_refl _⟩
    case round =>
      obtain ⟨k, v, hk, rfl, i1, ho, i0', hbel, hz⟩ := hrel
      have hZ := ZW.out
      by_cases hlt : k < n
      · have y2 : wr.cell? ⟨w.heap.size + 1, 2, none⟩ = some v := box_cell i1 rfl
        have hkn : (k : Int) < (n : Int) := by omega
        have hoA := ho.alloc (.cells #[.int .i64 32] 3)
        have zl : w.heap.size + 1 < wr.heap.size := by omega
        have HI : Hid (wr.heap[w.heap.size + 1]? = some (.cells #[.int .i64 x, .int .i64 y, v, .int .i64 0, .int .i64 0, .bool false] 30 (0, 0)) ∧ wr.heap[w.heap.size]? = some (.cells #[.int .i64 0, .int .i64 0, .slice none 0 0, .int .i64 0, .int .i64 0, .bool false] 30 (0, 0)) ∧ wr.ownsRow W1.heap.size 3 1 v k ((List.replicate k (32 : Int)).map (Value.int .i64))) := ⟨i1, i0', ho⟩
        clear i1 i0' ho
        go_wp2_with (at_builtin; refine wpList_append_lies _ rfl _ _ 22 rfl W1.heap.size 3 i0 (.int .i64 0) 1 8 Tryd.underlying22 hi hz0 hz1 hz2 rfl (by decide) _ k _ rfl hoA ⟨_, 0, none⟩ 1 _ [.int .i64 32] rfl rfl ?c1 ?c2 (by omega) ?c3 ?c4 ?c5 _ rfl ?_)
        case c1 => exact cells_newG _ _ _ _ (by simp)
        case c2 => intro u hu; simp at hu; rcases hu with rfl; rfl
        case c3 => unfold maxLen; omega
        case c4 => omega
        case c5 => simp; omega
        intro g kc w3 hown3 hgrow3 _ _
        have hb3 : Below W1.heap.size wr w3 := Below.grown ((Below.refl _ _).alloc (by omega) _) hgrow3 (by simp; omega) (fun z h => by
          rcases HI.out.2.2.2 with ⟨hv, _⟩ | ⟨g', cap', cur', hv, hg', _⟩
          · subst hv; cases h
          · subst hv; cases h; exact hg')
        have hsz := hb3.size
        have k1 : w3.heap[w.heap.size + 1]? = some (.cells #[.int .i64 x, .int .i64 y, v, .int .i64 0, .int .i64 0, .bool false] 30 (0, 0)) := (hb3.block _ (by omega)).trans HI.out.1
        have k0 : w3.heap[w.heap.size]? = some (.cells #[.int .i64 0, .int .i64 0, .slice none 0 0, .int .i64 0, .int .i64 0, .bool false] 30 (0, 0)) := (hb3.block _ (by omega)).trans HI.out.2.1
        rw [← hZ] at hown3
        have hkg : W1.heap.size ≤ g := (hown3.lt g rfl).1
        have e1 : List.replicate k (Value.int .i64 32) ++ [Value.int .i64 32] = (List.replicate (k + 1) (32 : Int)).map (Value.int .i64) := by rw [List.map_replicate, List.replicate_succ']
        rw [e1] at hown3
        have y2' : w3.cell? ⟨w.heap.size + 1, 2, none⟩ = some v := box_cell k1 rfl
        have f2' : w3.frozen? ⟨w.heap.size + 1, 2, none⟩ = false := box_frozen k1
        have hst := box_set (j := 2) (.slice (some ⟨g, 0, none⟩) (k + 1) kc) k1
        have HN3 : Hid (_ ∧ _ ∧ _ ∧ _) := ⟨hst, own_off hown3 (w.heap.size + 1) 2 (.slice (some ⟨g, 0, none⟩) (k + 1) kc) (by omega), (box_other (j := 2) (.slice (some ⟨g, 0, none⟩) (k + 1) kc) (show w.heap.size ≠ w.heap.size + 1 by omega)).trans k0, (hbel.trans (hb3.mono (by have := HB.out.2.2.size; omega))).setCell (p := ⟨w.heap.size + 1, 2, none⟩) (by simp) (.slice (some ⟨g, 0, none⟩) (k + 1) kc)⟩
        have HSZ : Hid (W1.heap.size ≤ w3.heap.size) := by show W1.heap.size ≤ w3.heap.size; omega
        clear hst k1 k0 hown3 hgrow3 hb3 hoA y2
        go_wp2
        go_roundw
        case rel => exact ⟨k + 1, _, by omega, by go_num, by simpa using HN3.out.1, HN3.out.2.1, HN3.out.2.2.1, HN3.out.2.2.2, by simpa using HSZ.out⟩
        case measure => simp [intOf]; omega
      · have e : k = n := by omega
        subst e
        obtain ⟨g, kc, rfl⟩ : ∃ g kc, v = .slice (some ⟨g, 0, none⟩) k kc := by
          rcases ho.2 with ⟨hv, h0⟩ | ⟨g', cap', cur', hv, _⟩
          · omega
          · exact ⟨g', cap', hv⟩
        have hkg : W1.heap.size ≤ g := (ho.lt g rfl).1
        have g0 := box_cell (j := 0) i1 rfl
        have g1 := box_cell (j := 1) i1 rfl
        have g2 := box_cell (j := 2) i1 rfl
        have g3 := box_cell (j := 3) i1 rfl
        have g4 := box_cell (j := 4) i1 rfl
        have g5 := box_cell (j := 5) i1 rfl
        have HLD : (loadVar 30 ⟨w.heap.size, 0, none⟩).run Tryd.prog (wr.setRow w.heap.size #[.int .i64 x, .int .i64 y, .slice (some ⟨g, 0, none⟩) k kc, .int .i64 0, .int .i64 0, .bool false]) = .ok (.agg #[.int .i64 x, .int .i64 y, .slice (some ⟨g, 0, none⟩) k kc, .int .i64 0, .int .i64 0, .bool false]) (wr.setRow w.heap.size #[.int .i64 x, .int .i64 y, .slice (some ⟨g, 0, none⟩) k kc, .int .i64 0, .int .i64 0, .bool false]) := run_loadVar_row _ _ _ _ _ _ _ (setRow_heap _ _ _ _ _ _ i0') Tryd.underlying30 rfl (by kernel_rfl)
        have HO : Hid (_ ∧ _) := ⟨own_low (own_offR ho w.heap.size #[.int .i64 x, .int .i64 y, .slice (some ⟨g, 0, none⟩) k kc, .int .i64 0, .int .i64 0, .bool false] (by omega)) (show w.heap.size ≤ W1.heap.size by omega), below_setRow hbel (Nat.le_refl _) #[.int .i64 x, .int .i64 y, .slice (some ⟨g, 0, none⟩) k kc, .int .i64 0, .int .i64 0, .bool false]⟩
        clear ho i1
        go_wp2_with (refine wpList_store_row rfl _ _ _ rfl _ _ rfl rfl _ _ i0' (by kernel_rfl) rfl (by simp [Value.oneCell']) ?_)
        (try simp only [Exit.inBlock, Exit.then])
        refine bodyPost_ret (by simp [results, Tryd.results45, asAddr, Act.put, HLD]; try rfl) rfl ?_
        refine ⟨_, [g] ++ [], rfl, ?_, by simp, HO.out.2⟩
        rw [HRR.out, newG_yes HS.out, HN.out]
        exact own_Grid (d := (x, y, List.replicate k (32 : Int), (0 : Int), (0 : Int), false, ())) (F2 := [g]) (own_ints (List.length_replicate) HO.out.1)

end Go.Proofs.YtojalheohpkdoaaDoor
