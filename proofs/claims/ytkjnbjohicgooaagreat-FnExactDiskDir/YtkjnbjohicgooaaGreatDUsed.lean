/-
  DiskUsed, the model's and the program's.
-/
import Derived.Test.YtkjnbjohicgooaaGreatTyDisk
namespace Go.Proofs.YtkjnbjohicgooaaGreat
open Go.RowKit
set_option linter.unusedVariables false

/-- What the first k nodes use. -/
def usedTo (l : List shNode.D) (k : Nat) : Int := ((l.take k).map fun x => if ((List.length x.2.1 : Nat) : Int) > ((List.length x.2.2.1 : Nat) : Int) then ((List.length x.2.1 : Nat) : Int) else ((List.length x.2.2.1 : Nat) : Int)).sum

def used (d : shDisk.D) : Int := usedTo d.2.2.2.1 (List.length d.2.2.2.1)

theorem usedTo_zero (l : List shNode.D) : usedTo l 0 = 0 := by simp [usedTo]

theorem usedTo_succ (l : List shNode.D) (k : Nat) (x : shNode.D) (h : shNode.at l k = some x) :
    usedTo l (k + 1) = usedTo l k + if ((List.length x.2.1 : Nat) : Int) > ((List.length x.2.2.1 : Nat) : Int) then ((List.length x.2.1 : Nat) : Int) else ((List.length x.2.2.1 : Nat) : Int) := by
  have hk : k < l.length := by
    rcases Nat.lt_or_ge k l.length with h' | h'
    · exact h'
    · rw [show shNode.at l k = none from List.getElem?_eq_none h'] at h; cases h
  have hx : l[k] = x := by
    have : l[k]? = some x := h
    rw [List.getElem?_eq_getElem hk] at this
    exact Option.some.inj this
  have e2 : l.take (k + 1) = l.take k ++ [x] := by rw [List.take_succ_eq_append_getElem hk, hx]
  unfold usedTo
  rw [e2, List.map_append, List.sum_append]
  simp

theorem sz_len (x : shNode.D) : (List.length x.2.1 : Nat) ≤ shNode.sz x ∧ (List.length x.2.2.1 : Nat) ≤ shNode.sz x := by
  rw [sz_Node]
  have h1 : (List.length x.2.1 : Nat) ≤ Sh.sz (.sl .u8) x.2.1 := Nat.le_add_right _ _
  have h2 : (List.length x.2.2.1 : Nat) ≤ Sh.sz (.sl .u8) x.2.2.1 := Nat.le_add_right _ _
  omega

theorem usedTo_bd (l : List shNode.D) : ∀ k, 0 ≤ usedTo l k ∧ usedTo l k ≤ szTo shNode l k
  | 0 => by rw [usedTo_zero, szTo_zero]; simp
  | k + 1 => by
    have ih := usedTo_bd l k
    cases h : shNode.at l k with
    | none =>
      have hk : l.length ≤ k := by
        rcases Nat.lt_or_ge k l.length with h' | h'
        · rw [show shNode.at l k = some l[k] from List.getElem?_eq_getElem h'] at h; cases h
        · exact h'
      have e : l.take (k + 1) = l.take k := by rw [List.take_of_length_le (by omega), List.take_of_length_le hk]
      unfold usedTo szTo at *
      rw [e]; exact ih
    | some x =>
      have h1 := usedTo_succ l k x h
      have h2 := szTo_succ shNode l k x h
      have h3 := sz_len x
      rw [h1, h2]
      split <;> omega

theorem specMost_any (a b : Int) (w : World) :
    Calls Tryz.prog 61 #[.int .i64 a, .int .i64 b] w fun e w' => e = .returned (.int .i64 (if a > b then a else b)) ∧ w' = w := by
  by_cases h : a > b
  · rw [if_pos h]
    go_enter Tryz.func61, Tryz.ntmps61
    go_wp2
    go_ret
    exact ⟨rfl, rfl⟩
  · rw [if_neg h]
    go_enter Tryz.func61, Tryz.ntmps61
    go_wp2
    go_ret
    exact ⟨rfl, rfl⟩

set_option maxRecDepth 100000 in
set_option maxHeartbeats 1000000 in
theorem specUsed_ok (cs : List Value) (d : shDisk.D) (w : World) (hr : Reads shDisk w cs d) (hs : shDisk.sz d ≤ 1048576) :
    Calls Tryz.prog 60 #[.agg cs.toArray] w fun e w' => e = .returned (.int .i64 (used d)) ∧ Below w.heap.size w w' := by
  obtain ⟨a3, n3, c3, a4, n4, c4, a5, n5, c5, rfl, r3, r4, r5⟩ := open_Disk hr
  obtain ⟨x0, e0⟩ : ∃ x : Int, x = d.1 := ⟨_, rfl⟩
  obtain ⟨x1, e1⟩ : ∃ x : Int, x = d.2.1 := ⟨_, rfl⟩
  obtain ⟨x2, e2⟩ : ∃ x : Int, x = d.2.2.1 := ⟨_, rfl⟩
  rw [sz_Disk] at hs
  obtain ⟨hl, hc1, hc2⟩ := reads_len r3
  have hsz : n3 + (List.map shNode.sz d.2.2.2.1).sum ≤ 1048576 := by
    have : Sh.sz (.sl shNode) d.2.2.2.1 = n3 + (List.map shNode.sz d.2.2.2.1).sum := by rw [← hl]; rfl
    omega
  rw [← e0, ← e1, ← e2]
  obtain ⟨nd, hnd⟩ : ∃ nd : List shNode.D, nd = d.2.2.2.1 := ⟨_, rfl⟩
  have HU : Hid (used d = usedTo nd n3) := by show _ = _; unfold used; rw [hnd, ← hl]
  rw [← hnd] at r3 hsz hl
  have HR : Hid (Reads (.sl shNode) w [.slice a3 n3 c3] nd) := r3
  have HS : Hid (n3 + (List.map shNode.sz nd).sum ≤ 1048576) := hsz
  have HL : Hid (nd.length = n3) := hl
  rw [HU.out]
  have hn : n3 ≤ 1048576 := by omega
  have bW0 : Below w.heap.size w (w.alloc (.cells #[.int .i64 x0, .int .i64 x1, .int .i64 x2, .slice a3 n3 c3, .slice a4 n4 c4, .slice a5 n5 c5] 33)) := (Below.refl _ _).alloc (Nat.le_refl _) _
  clear hr hs r3 r4 r5 e0 e1 e2 hl hc1 hc2 hnd hsz
  go_enter Tryz.func60, Tryz.ntmps60
  go_wp2
  go_loopw [3, 9] (fun s i wr => ∃ k : Nat, k ≤ n3 ∧ s = .int .i64 (usedTo nd k) ∧ i = .int .i64 k ∧ Below w.heap.size w wr) (fun _ i _ => n3 - (intOf i).toNat)
  case atStart => exact ⟨0, Nat.zero_le _, by rw [usedTo_zero], rfl, bW0⟩
  case round =>
    obtain ⟨k, hk, rfl, rfl, hbel⟩ := hrel
    have s1 := usedTo_bd nd k
    have s2 := szTo_le shNode nd k
    have s3 := HS.out
    by_cases hlt : k < n3
    · obtain ⟨b, off, c, x, rfl, hb, hx, hrx, hcell⟩ := reads_elem HR.out k hlt
      have u1 := usedTo_succ nd k x hx
      have s4 := usedTo_bd nd (k + 1)
      have s5 := szTo_le shNode nd (k + 1)
      obtain ⟨a1, n1, c1, a2, n2, c2, rfl, t1, t2⟩ := open_Node hrx
      have l1 := (reads_len t1).1
      have l2 := (reads_len t2).1
      obtain ⟨y0, ey0⟩ : ∃ y : Int, y = x.1 := ⟨_, rfl⟩
      have g0 : wr.cell? ⟨b, off + k * 3, none⟩ = some (.int .i64 y0) := by rw [ey0]; exact (hbel.cell (p := ⟨b, off + (k * 3 + 0), none⟩) hb).trans (hcell 0 (by decide))
      have g1 : wr.cell? ⟨b, off + k * 3 + 1, none⟩ = some (.slice a1 n1 c1) := (hbel.cell (p := ⟨b, off + (k * 3 + 1), none⟩) hb).trans (hcell 1 (by decide))
      have g2 : wr.cell? ⟨b, off + k * 3 + 2, none⟩ = some (.slice a2 n2 c2) := (hbel.cell (p := ⟨b, off + (k * 3 + 2), none⟩) hb).trans (hcell 2 (by decide))
      rw [l1, l2] at u1
      obtain ⟨U, hU⟩ : ∃ U, U = usedTo nd k := ⟨_, rfl⟩
      obtain ⟨M, hM⟩ : ∃ M : Int, M = if (n1 : Int) > (n2 : Int) then (n1 : Int) else (n2 : Int) := ⟨_, rfl⟩
      have HM : Hid (M = _) := hM
      rw [← hU, ← hM] at u1
      rw [← hU] at s1
      have HU1 : Hid (usedTo nd (k + 1) = U + M) := u1
      rw [u1] at s4
      rw [← hU]
      have hM0 : 0 ≤ M := by rw [hM]; split <;> omega
      have hbs := hbel.size
      have bA : Below w.heap.size w (wr.alloc (.cells #[.int .i64 y0, .slice a1 n1 c1, .slice a2 n2 c2] 93)) := hbel.alloc hbs _
      clear hcell hrx hx t1 t2 l1 l2 ey0 hU hM u1
      go_wp2_with fail
      refine (specMost_any _ _ _).mono ?_
      rintro e w2 ⟨rfl, rfl⟩
      rw [← HM.out]
      clear g0 g1 g2
      go_wp2
      go_roundw
      case rel => exact ⟨k + 1, by omega, by rw [HU1.out], by go_num, bA⟩
      case measure => simp [intOf]; omega
    · have e : k = n3 := by omega
      subst e
      go_wp2
      go_ret
      exact ⟨rfl, hbel⟩

set_option maxRecDepth 100000 in
theorem nodeUsed_ok (y0 : Int) (a1 : Option Addr) (n1 c1 : Nat) (a2 : Option Addr) (n2 c2 : Nat) (w : World) :
    Calls Tryz.prog 109 #[.agg #[.int .i64 y0, .slice a1 n1 c1, .slice a2 n2 c2]] w fun e w' => e = .returned (.int .i64 (if (n1 : Int) > (n2 : Int) then (n1 : Int) else (n2 : Int))) ∧ Below w.heap.size w w' := by
  have bA : Below w.heap.size w (w.alloc (.cells #[.int .i64 y0, .slice a1 n1 c1, .slice a2 n2 c2] 93)) := (Below.refl _ _).alloc (Nat.le_refl _) _
  go_enter Tryz.func109, Tryz.ntmps109
  go_wp2 <;> (go_ret; refine ⟨?_, bA⟩) <;> first | rfl | (have e : n1 = n2 := by omega); subst e; rfl

set_option maxRecDepth 100000 in
set_option maxHeartbeats 1000000 in
theorem implUsed_ok (cs : List Value) (d : shDisk.D) (w : World) (hr : Reads shDisk w cs d) (hs : shDisk.sz d ≤ 1048576) :
    Calls Tryz.prog 94 #[.agg cs.toArray] w fun e w' => e = .returned (.int .i64 (used d)) ∧ Below w.heap.size w w' := by
  obtain ⟨a3, n3, c3, a4, n4, c4, a5, n5, c5, rfl, r3, r4, r5⟩ := open_Disk hr
  obtain ⟨x0, e0⟩ : ∃ x : Int, x = d.1 := ⟨_, rfl⟩
  obtain ⟨x1, e1⟩ : ∃ x : Int, x = d.2.1 := ⟨_, rfl⟩
  obtain ⟨x2, e2⟩ : ∃ x : Int, x = d.2.2.1 := ⟨_, rfl⟩
  rw [sz_Disk] at hs
  obtain ⟨hl, hc1, hc2⟩ := reads_len r3
  have hsz : n3 + (List.map shNode.sz d.2.2.2.1).sum ≤ 1048576 := by
    have : Sh.sz (.sl shNode) d.2.2.2.1 = n3 + (List.map shNode.sz d.2.2.2.1).sum := by rw [← hl]; rfl
    omega
  rw [← e0, ← e1, ← e2]
  obtain ⟨nd, hnd⟩ : ∃ nd : List shNode.D, nd = d.2.2.2.1 := ⟨_, rfl⟩
  have HU : Hid (used d = usedTo nd n3) := by show _ = _; unfold used; rw [hnd, ← hl]
  rw [← hnd] at r3 hsz hl
  have HR : Hid (Reads (.sl shNode) w [.slice a3 n3 c3] nd) := r3
  have HS : Hid (n3 + (List.map shNode.sz nd).sum ≤ 1048576) := hsz
  have HL : Hid (nd.length = n3) := hl
  rw [HU.out]
  have hn : n3 ≤ 1048576 := by omega
  have bW0 : Below w.heap.size w (w.alloc (.cells #[.int .i64 x0, .int .i64 x1, .int .i64 x2, .slice a3 n3 c3, .slice a4 n4 c4, .slice a5 n5 c5] 33)) := (Below.refl _ _).alloc (Nat.le_refl _) _
  clear hr hs r3 r4 r5 e0 e1 e2 hl hc1 hc2 hnd hsz
  go_enter Tryz.func94, Tryz.ntmps94
  go_wp2
  go_loopw [3, 9] (fun s i wr => ∃ k : Nat, k ≤ n3 ∧ s = .int .i64 (usedTo nd k) ∧ i = .int .i64 k ∧ Below w.heap.size w wr) (fun _ i _ => n3 - (intOf i).toNat)
  case atStart => exact ⟨0, Nat.zero_le _, by rw [usedTo_zero], rfl, bW0⟩
  case round =>
    obtain ⟨k, hk, rfl, rfl, hbel⟩ := hrel
    have s1 := usedTo_bd nd k
    have s2 := szTo_le shNode nd k
    have s3 := HS.out
    by_cases hlt : k < n3
    · obtain ⟨b, off, c, x, rfl, hb, hx, hrx, hcell⟩ := reads_elem HR.out k hlt
      have u1 := usedTo_succ nd k x hx
      have s4 := usedTo_bd nd (k + 1)
      have s5 := szTo_le shNode nd (k + 1)
      obtain ⟨a1, n1, c1, a2, n2, c2, rfl, t1, t2⟩ := open_Node hrx
      have l1 := (reads_len t1).1
      have l2 := (reads_len t2).1
      obtain ⟨y0, ey0⟩ : ∃ y : Int, y = x.1 := ⟨_, rfl⟩
      have g0 : wr.cell? ⟨b, off + k * 3, none⟩ = some (.int .i64 y0) := by rw [ey0]; exact (hbel.cell (p := ⟨b, off + (k * 3 + 0), none⟩) hb).trans (hcell 0 (by decide))
      have g1 : wr.cell? ⟨b, off + k * 3 + 1, none⟩ = some (.slice a1 n1 c1) := (hbel.cell (p := ⟨b, off + (k * 3 + 1), none⟩) hb).trans (hcell 1 (by decide))
      have g2 : wr.cell? ⟨b, off + k * 3 + 2, none⟩ = some (.slice a2 n2 c2) := (hbel.cell (p := ⟨b, off + (k * 3 + 2), none⟩) hb).trans (hcell 2 (by decide))
      rw [l1, l2] at u1
      obtain ⟨U, hU⟩ : ∃ U, U = usedTo nd k := ⟨_, rfl⟩
      obtain ⟨M, hM⟩ : ∃ M : Int, M = if (n1 : Int) > (n2 : Int) then (n1 : Int) else (n2 : Int) := ⟨_, rfl⟩
      have HM : Hid (M = _) := hM
      rw [← hU, ← hM] at u1
      rw [← hU] at s1
      have HU1 : Hid (usedTo nd (k + 1) = U + M) := u1
      rw [u1] at s4
      rw [← hU]
      have hM0 : 0 ≤ M := by rw [hM]; split <;> omega
      have hbs := hbel.size
      have bA : Below w.heap.size w (wr.alloc (.cells #[.int .i64 y0, .slice a1 n1 c1, .slice a2 n2 c2] 93)) := hbel.alloc hbs _
      clear hcell hrx hx t1 t2 l1 l2 ey0 hU hM u1
      go_wp2_with fail
      refine (nodeUsed_ok _ _ _ _ _ _ _ _).mono ?_
      rintro e w2 ⟨rfl, hb2⟩
      rw [← HM.out]
      have bB := bA.trans (hb2.mono bA.size)
      clear hb2
      clear g0 g1 g2
      go_wp2
      go_roundw
      case rel => exact ⟨k + 1, by omega, by rw [HU1.out], by go_num, bB⟩
      case measure => simp [intOf]; omega
    · have e : k = n3 := by omega
      subst e
      go_wp2
      go_ret
      exact ⟨rfl, hbel⟩


end Go.Proofs.YtkjnbjohicgooaaGreat
