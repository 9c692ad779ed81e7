/-
  limitsOk, nodesOk, keptOk of the program.
-/
import Derived.Test.YtkjnbjohicgooaaGreatDOkP
namespace Go.Proofs.YtkjnbjohicgooaaGreat
open Go.RowKit
set_option linter.unusedVariables false

def limB (x0 x1 x2 : Int) : Bool := decide (0 ≤ x0) && decide (x0 ≤ 60000) && decide (-1 ≤ x1) && decide (x1 ≤ 1000) && decide (1 ≤ x2) && decide (x2 ≤ 1000000)

set_option maxRecDepth 100000 in
set_option maxHeartbeats 2000000 in
theorem limitsOk_ok (x0 x1 x2 : Int) (a3 : Option Addr) (n3 c3 : Nat) (a4 : Option Addr) (n4 c4 : Nat) (a5 : Option Addr) (n5 c5 : Nat) (w : World) :
    Calls Tryz.prog 89 #[.agg #[.int .i64 x0, .int .i64 x1, .int .i64 x2, .slice a3 n3 c3, .slice a4 n4 c4, .slice a5 n5 c5]] w fun e w' => e = .returned (.bool (limB x0 x1 x2)) ∧ Below w.heap.size w w' := by
  go_enter Tryz.func89, Tryz.ntmps89
  go_wp2
  all_goals (go_ret; refine ⟨?_, (Below.refl _ _).alloc (Nat.le_refl _) _⟩)
  all_goals (show Ending.returned (Value.bool _) = Ending.returned (Value.bool _))
  all_goals (first | (simp_all [limB]; done) | (simp_all [limB]; omega))

/-- What nodesOk has seen last. -/
def lastId (l : List NodeD) (k : Nat) (v : Int) : Prop := (k = 0 ∧ v = 0) ∨ ∃ j, ∃ hj : j < l.length, k = j + 1 ∧ v = (l[j]).1

/-- The word of nodesOk. -/
def nodesIB (l : List NodeD) (next : Int) : Bool :=
  decide (∀ i : Fin l.length, 1 ≤ (l[i.1]).1 ∧ (l[i.1]).1 < next ∧ ∀ j : Fin l.length, j.1 + 1 = i.1 → (l[j.1]).1 < (l[i.1]).1) && decide (l.length ≤ 8)
theorem nodesIB_iff (l : List NodeD) (next : Int) : nodesIB l next = true ↔ nodesTo l next l.length ∧ l.length ≤ 8 := by
  unfold nodesIB nodesTo
  simp only [Bool.and_eq_true, decide_eq_true_eq]
  constructor
  · rintro ⟨h, h8⟩
    exact ⟨fun i hi _ => ⟨(h ⟨i, hi⟩).1, (h ⟨i, hi⟩).2.1, fun j hj e => (h ⟨i, hi⟩).2.2 ⟨j, hj⟩ e⟩, h8⟩
  · rintro ⟨h, h8⟩
    exact ⟨fun i => ⟨(h i.1 i.2 i.2).1, (h i.1 i.2 i.2).2.1, fun j e => (h i.1 i.2 i.2).2.2 j.1 j.2 e⟩, h8⟩
theorem nodesIB_no {l : List NodeD} {next : Int} (h : ¬ (nodesTo l next l.length ∧ l.length ≤ 8)) : nodesIB l next = false := by
  cases e : nodesIB l next
  · rfl
  · exact absurd ((nodesIB_iff l next).1 e) h
theorem nodesIB_yes {l : List NodeD} {next : Int} (h : nodesTo l next l.length ∧ l.length ≤ 8) : nodesIB l next = true := (nodesIB_iff l next).2 h

set_option maxRecDepth 100000 in
set_option maxHeartbeats 2000000 in
theorem nodesOk_ok (a : Option Addr) (n cap : Nat) (l : List NodeD) (next : Int) (w : World) (hr : Reads (.sl shNode) w [.slice a n cap] l) :
    Calls Tryz.prog 90 #[.slice a n cap, .int .i64 next] w fun e w' => e = .returned (.bool (nodesIB l next)) ∧ Below w.heap.size w w' := by
  obtain ⟨hl0, hc1, hc2⟩ := reads_len hr
  have hl : List.length (α := NodeD) l = n := hl0
  unfold maxLen at hc2
  have HR : Hid (Reads (.sl shNode) w [.slice a n cap] l) := hr
  have HL : Hid (List.length (α := NodeD) l = n) := hl
  clear hr hl hl0
  go_enter Tryz.func90, Tryz.ntmps90
  go_wp2
  go_loopw [5, 10] (fun v i wr => ∃ (k : Nat) (y : Int), k ≤ n ∧ v = .int .i64 y ∧ i = .int .i64 k ∧ Below w.heap.size w wr ∧ Hid (nodesTo l next k ∧ lastId l k y)) (fun _ i _ => n - (intOf i).toNat)
  case atStart => exact ⟨0, 0, Nat.zero_le _, rfl, rfl, Below.refl _ _, fun i _ h => by omega, .inl ⟨rfl, rfl⟩⟩
  case round =>
    obtain ⟨k, y, hk, rfl, rfl, hbel, hx0⟩ := hrel
    have hbs := hbel.size
    by_cases hlt : k < n
    · obtain ⟨b, off, cc, x, rfl, hb, hx, hrx, hcell⟩ := reads_elem HR.out k hlt
      obtain ⟨p1, m1, k1, p2, m2, k2, rfl, _, _⟩ := open_Node hrx
      obtain ⟨hkd, hxe⟩ := at_some' hx
      obtain ⟨y0, ey0⟩ : ∃ y : Int, y = x.1 := ⟨_, rfl⟩
      have hy0 : (l[k]'hkd).1 = y0 := by rw [ey0]; exact congrArg Prod.fst hxe
      have g0 : wr.cell? ⟨b, off + k * 3, none⟩ = some (.int .i64 y0) := by rw [ey0]; exact (hbel.cell (p := ⟨b, off + (k * 3 + 0), none⟩) hb).trans (hcell 0 (by decide))
      have g1 : wr.cell? ⟨b, off + k * 3 + 1, none⟩ = some (.slice p1 m1 k1) := (hbel.cell (p := ⟨b, off + (k * 3 + 1), none⟩) hb).trans (hcell 1 (by decide))
      have g2 : wr.cell? ⟨b, off + k * 3 + 2, none⟩ = some (.slice p2 m2 k2) := (hbel.cell (p := ⟨b, off + (k * 3 + 2), none⟩) hb).trans (hcell 2 (by decide))
      have bA : Below w.heap.size w (wr.alloc (.cells #[.int .i64 y0, .slice p1 m1 k1, .slice p2 m2 k2] 93)) := hbel.alloc hbs _
      have HY : Hid ((l[k]'hkd).1 = y0) := hy0
      clear hcell hrx hx hxe ey0 hy0
      by_cases z1 : y0 ≤ y
      · have EE : Hid (nodesIB l next = false) := nodesIB_no (fun h => by
          have h1 := h.1 k hkd (by have := HL.out; omega)
          rw [HY.out] at h1
          rcases hx0.out.2 with ⟨_, e⟩ | ⟨j, hj, e1, e2⟩
          · omega
          · have := h1.2.2 j hj e1.symm; omega)
        clear hx0
        go_wp2
        go_ret
        exact ⟨by rw [EE.out]; rfl, bA⟩
      by_cases z2 : next ≤ y0
      · have EE : Hid (nodesIB l next = false) := nodesIB_no (fun h => by
          have h1 := h.1 k hkd (by have := HL.out; omega)
          rw [HY.out] at h1
          omega)
        clear hx0
        go_wp2
        go_ret
        exact ⟨by rw [EE.out]; rfl, bA⟩
      have HX : Hid (nodesTo l next (k + 1) ∧ lastId l (k + 1) y0) := by
        have hpos : 1 ≤ y0 := by
          rcases hx0.out.2 with ⟨_, e⟩ | ⟨j, hj, e1, e2⟩
          · omega
          · have := (hx0.out.1 j hj (by omega)).1; omega
        refine ⟨nodesTo_succ hx0.out.1 hkd (by rw [HY.out]; exact hpos) (by rw [HY.out]; omega) (fun i hi e => ?_), .inr ⟨k, hkd, rfl, HY.out.symm⟩⟩
        rw [HY.out]
        rcases hx0.out.2 with ⟨e0, _⟩ | ⟨j, hj, e1, e2⟩
        · omega
        · obtain rfl : i = j := by omega
          omega
      clear hx0 HY
      go_wp2
      go_roundw
      case rel => exact ⟨k + 1, y0, by omega, rfl, by go_num, bA, HX⟩
      case measure => simp [intOf]; omega
    · have e : k = n := by omega
      have h2 := hx0.out.1
      rw [show k = l.length by have := HL.out; omega] at h2
      have HN : Hid (nodesTo l next l.length) := h2
      have EV : Hid (nodesIB l next = decide ((n : Int) ≤ 8)) := by
        show _ = _
        by_cases h8 : (n : Int) ≤ 8
        · rw [decide_eq_true h8]; exact nodesIB_yes ⟨HN.out, by have := HL.out; omega⟩
        · rw [decide_eq_false h8]; exact nodesIB_no (fun h => by have := HL.out; omega)
      clear hx0 h2 HN
      go_wp2
      go_ret
      exact ⟨by rw [EV.out]; rfl, hbel⟩

/-- The first k links have names that rise. -/
def namesTo (l : List LinkD) (k : Nat) : Prop := ∀ i (hi : i < l.length), i < k → isName (l[i]).1 ∧ ∀ j (hj : j < l.length), j + 1 = i → ltS (l[j]).1 (l[i]).1 = true
theorem namesTo_succ {l : List LinkD} {k : Nat} (h : namesTo l k) (hk : k < l.length) (h1 : isName (l[k]).1) (h3 : ∀ j (hj : j < l.length), j + 1 = k → ltS (l[j]).1 (l[k]).1 = true) : namesTo l (k + 1) := by
  intro i hi hik
  by_cases e : i = k
  · subst e; exact ⟨h1, h3⟩
  · exact h i hi (by omega)
def lastName (l : List LinkD) (k : Nat) (v : ByteArray) : Prop := (k = 0 ∧ v = noText) ∨ ∃ j, ∃ hj : j < l.length, k = j + 1 ∧ v = (l[j]).1
/-- The word of keptOk. -/
def keptIB (l : List LinkD) : Bool :=
  decide (∀ i : Fin l.length, nameB (l[i.1]).1 = true ∧ ∀ j : Fin l.length, j.1 + 1 = i.1 → ltS (l[j.1]).1 (l[i.1]).1 = true)
theorem keptIB_iff (l : List LinkD) : keptIB l = true ↔ namesTo l l.length := by
  unfold keptIB namesTo
  simp only [decide_eq_true_eq]
  constructor
  · intro h i hi _
    exact ⟨(nameB_iff _).1 (h ⟨i, hi⟩).1, fun j hj e => (h ⟨i, hi⟩).2 ⟨j, hj⟩ e⟩
  · intro h i
    exact ⟨(nameB_iff _).2 (h i.1 i.2 i.2).1, fun j e => (h i.1 i.2 i.2).2 j.1 j.2 e⟩
theorem keptIB_no {l : List LinkD} (h : ¬ namesTo l l.length) : keptIB l = false := by
  cases e : keptIB l
  · rfl
  · exact absurd ((keptIB_iff l).1 e) h
theorem keptIB_yes {l : List LinkD} (h : namesTo l l.length) : keptIB l = true := (keptIB_iff l).2 h

theorem ltS_noText {s : ByteArray} (h : isName s) : ltS noText s = true := by
  unfold ltS
  rw [noText_list]
  cases e : s.toList with
  | nil =>
    have h1 := h.1
    have h2 : s.toList.length = s.size := by rw [ByteArray.toList_eq]; simp
    rw [e] at h2
    simp at h2
    omega
  | cons a r => rfl

set_option maxRecDepth 100000 in
set_option maxHeartbeats 2000000 in
theorem keptOk_ok (a : Option Addr) (n cap : Nat) (l : List LinkD) (w : World) (hr : Reads (.sl shLink) w [.slice a n cap] l) :
    Calls Tryz.prog 91 #[.slice a n cap] w fun e w' => e = .returned (.bool (keptIB l)) ∧ Below w.heap.size w w' := by
  obtain ⟨hl0, hc1, hc2⟩ := reads_len hr
  have hl : List.length (α := LinkD) l = n := hl0
  unfold maxLen at hc2
  have HR : Hid (Reads (.sl shLink) w [.slice a n cap] l) := hr
  have HL : Hid (List.length (α := LinkD) l = n) := hl
  clear hr hl hl0
  go_enter Tryz.func91, Tryz.ntmps91
  go_wp2
  go_loopw [3, 8] (fun v i wr => ∃ (k : Nat) (y : ByteArray), k ≤ n ∧ v = .string y ∧ i = .int .i64 k ∧ Below w.heap.size w wr ∧ Hid (namesTo l k ∧ lastName l k y)) (fun _ i _ => n - (intOf i).toNat)
  case atStart => exact ⟨0, noText, Nat.zero_le _, rfl, rfl, Below.refl _ _, fun i _ h => by omega, .inl ⟨rfl, rfl⟩⟩
  case round =>
    obtain ⟨k, y, hk, rfl, rfl, hbel, hx0⟩ := hrel
    have hbs := hbel.size
    by_cases hlt : k < n
    · obtain ⟨b, off, cc, x, rfl, hb, hx, hrx, hcell⟩ := reads_elem HR.out k hlt
      obtain ⟨rfl, hys⟩ := open_Link hrx
      obtain ⟨hkd, hxe⟩ := at_some' hx
      obtain ⟨y0, ey0⟩ : ∃ y : ByteArray, y = x.1 := ⟨_, rfl⟩
      obtain ⟨y1, ey1⟩ : ∃ y : Int, y = x.2.1 := ⟨_, rfl⟩
      have hy0 : (l[k]'hkd).1 = y0 := by rw [ey0]; exact congrArg Prod.fst hxe
      have g0 : wr.cell? ⟨b, off + k * 2, none⟩ = some (.string y0) := by rw [ey0]; exact (hbel.cell (p := ⟨b, off + (k * 2 + 0), none⟩) hb).trans (hcell 0 (by decide))
      have g1 : wr.cell? ⟨b, off + k * 2 + 1, none⟩ = some (.int .i64 y1) := by rw [ey1]; exact (hbel.cell (p := ⟨b, off + (k * 2 + 1), none⟩) hb).trans (hcell 1 (by decide))
      rw [← ey0] at hys
      have bA : Below w.heap.size w (wr.alloc (.cells #[.string y0, .int .i64 y1] 81)) := hbel.alloc hbs _
      have HY : Hid ((l[k]'hkd).1 = y0) := hy0
      clear hcell hrx hx hxe ey0 ey1 hy0
      cases hN : nameB y0 with
      | false =>
        have EE : Hid (keptIB l = false) := keptIB_no (fun h => by
          have h1 := (h k hkd (by have := HL.out; omega)).1
          rw [HY.out] at h1
          exact (nameB_not y0).1 hN h1)
        clear hx0
        go_wp2_with fail
        refine (implNameB _ _ hys).mono ?_
        rintro e w9 ⟨rfl, rfl⟩
        rw [hN]
        go_wp2
        go_ret
        exact ⟨by rw [EE.out]; rfl, bA⟩
      | true =>
      cases hq : ltS y y0 with
      | false =>
        have EE : Hid (keptIB l = false) := keptIB_no (fun h => by
          have h1 := (h k hkd (by have := HL.out; omega))
          rw [HY.out] at h1
          rcases hx0.out.2 with ⟨_, e⟩ | ⟨j, hj, e1, e2⟩
          · rw [e, ltS_noText h1.1] at hq; cases hq
          · have := h1.2 j hj e1.symm; rw [← e2, hq] at this; cases this)
        clear hx0
        rcases ltS_not hq with q | rfl
        · clear hq
          go_wp2_with fail
          refine (implNameB _ _ hys).mono ?_
          rintro e w9 ⟨rfl, rfl⟩
          rw [hN]
          go_wp2
          go_ret
          exact ⟨by rw [EE.out]; rfl, bA⟩
        · have q1 := bytesLess_irrefl y0.toList
          have q2 : (y0.toList == y0.toList) = true := by simp
          clear hq
          go_wp2_with fail
          refine (implNameB _ _ hys).mono ?_
          rintro e w9 ⟨rfl, rfl⟩
          rw [hN]
          go_wp2
          go_ret
          exact ⟨by rw [EE.out]; rfl, bA⟩
      | true =>
        obtain ⟨q1, q2⟩ := ltS_gt hq
        have HX : Hid (namesTo l (k + 1) ∧ lastName l (k + 1) y0) := by
          refine ⟨namesTo_succ hx0.out.1 hkd (by rw [HY.out]; exact (nameB_iff y0).1 hN) (fun j hj e => ?_), .inr ⟨k, hkd, rfl, HY.out.symm⟩⟩
          rw [HY.out]
          rcases hx0.out.2 with ⟨e0, _⟩ | ⟨j', hj', e1, e2⟩
          · omega
          · obtain rfl : j = j' := by omega
            rw [← e2]; exact hq
        clear hx0 HY hq
        go_wp2_with fail
        refine (implNameB _ _ hys).mono ?_
        rintro e w9 ⟨rfl, rfl⟩
        rw [hN]
        go_wp2
        go_roundw
        case rel => exact ⟨k + 1, y0, by omega, rfl, by go_num, bA, HX⟩
        case measure => simp [intOf]; omega
    · have h2 := hx0.out.1
      rw [show k = l.length by have := HL.out; omega] at h2
      have EV : Hid (keptIB l = true) := keptIB_yes h2
      clear hx0 h2
      go_wp2
      go_ret
      exact ⟨by rw [EV.out]; rfl, hbel⟩

end Go.Proofs.YtkjnbjohicgooaaGreat
