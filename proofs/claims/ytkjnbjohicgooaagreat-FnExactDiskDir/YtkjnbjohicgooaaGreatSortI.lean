/-
  slices.Sort of ints of the call's own; idsOk's closure; slices.EqualFunc at it.
-/
import Derived.Test.YtkjnbjohicgooaaGreatShelf
import Derived.Test.YtkjnbjohicgooaaGreatDOkP
namespace Go.Proofs.YtkjnbjohicgooaaGreat
open Go.RowKit Go.Sort
set_option linter.unusedVariables false

def sortN (l : List Int) : List Int := l.mergeSort fun x y => decide (x ≤ y)
theorem sortN_len (l : List Int) : (sortN l).length = l.length := List.length_mergeSort _

theorem reads_holds {w : World} {g m cap : Nat} {l : List Int} (hl : l.length = m) (hg : g < w.heap.size) (hc : m ≤ cap) (hm : cap ≤ maxLen) (h : Holds (Value.int .i64) w g 0 l.toArray) : Reads (.sl .int) w [.slice (some ⟨g, 0, none⟩) m cap] l := by
  refine ⟨some ⟨g, 0, none⟩, cap, by show _ = [Value.slice _ l.length cap]; rw [hl], by show l.length ≤ cap; omega, hm, .inr ⟨g, 0, rfl, hg, fun i x hi => ?_⟩⟩
  have hx : l[i]? = some x := hi
  have hil : i < l.length := by
    rcases Nat.lt_or_ge i l.length with h' | h'
    · exact h'
    · rw [List.getElem?_eq_none h'] at hx; cases hx
  have h1 := (h i (by simpa using hil)).1
  refine ⟨[.int .i64 x], rfl, fun j hj => ?_, rfl⟩
  have hj0 : j = 0 := by have : (Sh.int).size = 1 := rfl; omega
  subst hj0
  have e : l.toArray[i]! = x := by
    rw [List.getElem?_eq_getElem hil] at hx
    simp [getElem!_pos, hil, Option.some.inj hx]
    rfl
  rw [e] at h1
  simpa [Sh.size_int] using h1

theorem holds_own {w : World} {B g m cap : Nat} {l : List Int} (hl : l.length = m) (h : w.ownsRow B 3 1 (.slice (some ⟨g, 0, none⟩) m cap) m (l.map (Value.int .i64))) : Holds (Value.int .i64) w g 0 l.toArray := by
  intro j hj
  have hjl : j < l.length := by simpa using hj
  refine ⟨?_, ?_⟩
  · rw [Nat.zero_add, h.cellAt j (by omega)]
    simp [hjl]
  · rw [Nat.zero_add]; exact h.frozenAt j

theorem sort_grown (w : World) (n g : Nat) (d : Array Int) (os : Array Obj) : w.grownBy (grow (putRow (Value.int .i64) (Sort.ahead w n) g 0 d) os) (some g) := by
  refine ⟨rfl, rfl, rfl, ?_, fun k hk hne => ?_⟩
  · simp [grow, putRow, mapBlock, Sort.ahead]
  · have hkg : g ≠ k := fun e => hne (by rw [e])
    rw [heap_grow_old _ _ (by simpa [putRow, mapBlock, Sort.ahead] using hk)]
    simp [putRow, mapBlock, Sort.ahead, Array.getElem?_modify, hkg]

theorem sortInts_ok (B g m cap : Nat) (l : List Int) (w : World) (hl : l.length = m) (hs : m < 4611686018427387904) (h : w.ownsRow B 3 1 (.slice (some ⟨g, 0, none⟩) m cap) m (l.map (Value.int .i64))) :
    Calls Tryz.prog 124 #[.slice (some ⟨g, 0, none⟩) m cap] w fun e w' => e = .returned (.tuple #[]) ∧ Reads (.sl .int) w' [.slice (some ⟨g, 0, none⟩) m cap] (sortN l) ∧ w.grownBy w' (some g) := by
  have hH := holds_own hl h
  have hg := (h.lt g rfl).2
  subst hl
  refine (Tryz.slices_Sort_int g 0 cap l w hH hg hs).mono ?_
  rintro e w' ⟨rfl, n, os, rfl⟩
  refine ⟨rfl, ?_, sort_grown w n g _ os⟩
  have hsz : g < (putRow (Value.int .i64) (Sort.ahead w n) g 0 (sortN l).toArray).heap.size := by simpa [putRow, mapBlock, Sort.ahead] using hg
  have h2 := holds_grow (Value.int .i64) _ os g 0 _ hsz (holds_putRow (Value.int .i64) (Sort.ahead w n) g 0 l.toArray (sortN l).toArray (holds_ahead _ w n g 0 _ hH) (by simp [sortN_len]))
  obtain ⟨hc1, hc2⟩ : l.length ≤ cap ∧ cap ≤ maxLen := by
    rcases h.2 with ⟨h1, _⟩ | ⟨g', cap', cur, hv, _, _, h1, h2, _⟩
    · simp at h1
    · simp only [Value.slice.injEq, Option.some.injEq, Addr.mk.injEq, and_true, true_and] at hv
      obtain ⟨rfl, rfl⟩ := hv
      exact ⟨h1, h2⟩
  refine reads_holds (sortN_len l) ?_ hc1 hc2 h2
  show g < (grow (putRow (Value.int .i64) (Sort.ahead w n) g 0 (sortN l).toArray) os).heap.size
  rw [show (grow (putRow (Value.int .i64) (Sort.ahead w n) g 0 (sortN l).toArray) os).heap.size = (putRow (Value.int .i64) (Sort.ahead w n) g 0 (sortN l).toArray).heap.size + os.size by simp [grow]]
  omega

theorem idsClosure_ok (id y0 : Int) (p1 : Option Addr) (m1 k1 : Nat) (p2 : Option Addr) (m2 k2 : Nat) (w : World) :
    Calls Tryz.prog 126 #[.int .i64 id, .agg #[.int .i64 y0, .slice p1 m1 k1, .slice p2 m2 k2]] w fun e w' => e = .returned (.bool (id == y0)) ∧ Below w.heap.size w w' := by
  go_enter Tryz.func126, Tryz.ntmps126
  go_wp2
  go_ret
  exact ⟨rfl, (Below.refl _ _).alloc (Nat.le_refl _) _⟩

theorem nodeIds_get (nd : List NodeD) (k : Nat) (hk : k < nd.length) (h2 : k < (nodeIds nd).length) : (nodeIds nd)[k] = (nd[k]).1 := by simp [nodeIds]
theorem get_congr {l m : List Int} (h : l = m) (k : Nat) (h1 : k < l.length) (h2 : k < m.length) : l[k] = m[k] := by subst h; rfl
theorem eqTo_succ {l m : List Int} {k : Nat} (h : l.take k = m.take k) (h1 : k < l.length) (h2 : k < m.length) (e : l[k] = m[k]) : l.take (k + 1) = m.take (k + 1) := by
  rw [List.take_succ_eq_append_getElem h1, List.take_succ_eq_append_getElem h2, h, e]

set_option maxRecDepth 100000 in
set_option maxHeartbeats 2000000 in
theorem equalFunc_ok (a1 : Option Addr) (n1 c1 : Nat) (l : List Int) (a2 : Option Addr) (n2 c2 : Nat) (nd : List NodeD) (w : World) (hr1 : Reads (.sl .int) w [.slice a1 n1 c1] l) (hr2 : Reads (.sl shNode) w [.slice a2 n2 c2] nd) :
    Calls Tryz.prog 125 #[.slice a1 n1 c1, .slice a2 n2 c2, .func (.func 126) #[] #[]] w fun e w' => e = .returned (.bool (decide (l = nodeIds nd))) ∧ Below w.heap.size w w' := by
  obtain ⟨hl1, hc1, hd1⟩ := reads_len hr1
  obtain ⟨hl2, hc2, hd2⟩ := reads_len hr2
  have hl1' : List.length (α := Int) l = n1 := hl1
  have hl2' : List.length (α := NodeD) nd = n2 := hl2
  have hl3 : (nodeIds nd).length = n2 := by unfold nodeIds; rw [List.length_map]; exact hl2'
  unfold maxLen at hd1 hd2
  have HR : Hid (Reads (.sl .int) w [.slice a1 n1 c1] l ∧ Reads (.sl shNode) w [.slice a2 n2 c2] nd) := ⟨hr1, hr2⟩
  have HL : Hid (l.length = n1 ∧ (nodeIds nd).length = n2 ∧ nd.length = n2) := ⟨hl1', hl3, hl2'⟩
  obtain ⟨V, hV⟩ : ∃ V, V = decide (l = nodeIds nd) := ⟨_, rfl⟩
  have Hno : Hid (l ≠ nodeIds nd → V = false) := fun h => by rw [hV]; exact decide_eq_false h
  have Hyes : Hid (l = nodeIds nd → V = true) := fun h => by rw [hV]; exact decide_eq_true h
  rw [← hV]
  clear hr1 hr2 hl1 hl2 hl1' hl2' hl3 hV
  by_cases hn : n1 = n2
  rotate_left
  · have EE : Hid (V = false) := Hno.out (fun h => hn (by have h1 := HL.out.1; rw [h] at h1; exact h1.symm.trans HL.out.2.1))
    have hq : ((n1 : Int) == (n2 : Int)) = false := by simp; omega
    go_enter Tryz.func125, Tryz.ntmps125
    go_wp2
    go_ret
    exact ⟨by rw [EE.out]; rfl, Below.refl _ _⟩
  subst hn
  have hq : ((n1 : Int) == (n1 : Int)) = true := by simp
  go_enter Tryz.func125, Tryz.ntmps125
  go_wp2
  go_loopw [17] (fun i wr => ∃ k : Nat, k ≤ n1 ∧ i = .int .i64 k ∧ Hid (l.take k = (nodeIds nd).take k) ∧ Below w.heap.size w wr) (fun i _ => n1 - (intOf i).toNat)
  case atStart => exact ⟨0, Nat.zero_le _, rfl, rfl, Below.refl _ _⟩
  case round =>
    obtain ⟨k, hk, rfl, hx0, hbel⟩ := hrel
    have hbs := hbel.size
    by_cases hlt : k < n1
    · obtain ⟨b1, o1, cc1, y, rfl, hb1, hy, hry, hcell1⟩ := reads_elem HR.out.1 k hlt
      obtain ⟨hkd1, hye⟩ := at_some' hy
      obtain ⟨z, hz⟩ : ∃ z : Int, z = y := ⟨_, rfl⟩
      have hyc : cc1 = [.int .i64 z] := by rw [hz]; exact hry
      subst hyc
      have f0 : wr.cell? ⟨b1, o1 + k, none⟩ = some (.int .i64 z) := by
        have h := hcell1 0 (by decide)
        refine (hbel.cell (p := ⟨b1, o1 + k, none⟩) hb1).trans ?_
        simpa [Sh.size_int] using h
      obtain ⟨b, off, cc, x, rfl, hb, hx, hrx, hcell⟩ := reads_elem HR.out.2 k hlt
      obtain ⟨p1, m1, k1, p2, m2, k2, rfl, _, _⟩ := open_Node hrx
      obtain ⟨hkd, hxe⟩ := at_some' hx
      obtain ⟨y0, ey0⟩ : ∃ y : Int, y = x.1 := ⟨_, rfl⟩
      have g0 : wr.cell? ⟨b, off + k * 3, none⟩ = some (.int .i64 y0) := by rw [ey0]; exact (hbel.cell (p := ⟨b, off + (k * 3 + 0), none⟩) hb).trans (hcell 0 (by decide))
      have g1 : wr.cell? ⟨b, off + k * 3 + 1, none⟩ = some (.slice p1 m1 k1) := (hbel.cell (p := ⟨b, off + (k * 3 + 1), none⟩) hb).trans (hcell 1 (by decide))
      have g2 : wr.cell? ⟨b, off + k * 3 + 2, none⟩ = some (.slice p2 m2 k2) := (hbel.cell (p := ⟨b, off + (k * 3 + 2), none⟩) hb).trans (hcell 2 (by decide))
      have h2 : k < (nodeIds nd).length := by rw [HL.out.2.1]; exact hlt
      have HY : Hid ((l[k]'hkd1) = z ∧ ((nodeIds nd)[k]'h2) = y0) := by
        refine ⟨hye.trans hz.symm, ?_⟩
        rw [ey0]; exact (nodeIds_get nd k hkd h2).trans (congrArg Prod.fst hxe)
      have bA : Below w.heap.size w (wr.alloc (.cells #[.int .i64 y0, .slice p1 m1 k1, .slice p2 m2 k2] 93)) := hbel.alloc hbs _
      clear hcell hrx hx hxe ey0 hcell1 hry hy hye hz
      go_wp2_with fail
      refine (idsClosure_ok _ _ _ _ _ _ _ _ _).mono ?_
      rintro e w1 ⟨rfl, hb1'⟩
      have b1' := bA.trans (hb1'.mono bA.size)
      clear hb1' g0 g1 g2 f0
      cases hzy : (z == y0) with
      | false =>
        have EE : Hid (V = false) := Hno.out (fun h => by
          have h1 : z = y0 := HY.out.1.symm.trans ((get_congr h k hkd1 h2).trans HY.out.2)
          simp [h1] at hzy)
        clear hx0
        go_wp2
        go_ret
        exact ⟨by rw [EE.out]; rfl, b1'⟩
      | true =>
        have HX : Hid (l.take (k + 1) = (nodeIds nd).take (k + 1)) := eqTo_succ hx0.out hkd1 h2 (by rw [HY.out.1, HY.out.2]; simpa using hzy)
        clear hx0 HY
        go_wp2
        go_roundw
        case rel => exact ⟨k + 1, by omega, by go_num, HX, b1'⟩
        case measure => simp [intOf]; omega
    · have EE : Hid (V = true) := Hyes.out (by
        have h := hx0.out
        rw [List.take_of_length_le (by have := HL.out.1; omega), List.take_of_length_le (by have := HL.out.2.1; omega)] at h
        exact h)
      clear hx0
      go_wp2
      go_ret
      exact ⟨by rw [EE.out]; rfl, hbel⟩

end Go.Proofs.YtkjnbjohicgooaaGreat
